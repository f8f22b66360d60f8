/- Put together: NoteN, NoteO, NoteQ. Conditions: as each says. -/
import Derived.Test.YteioaaegooebpaaGreatNp3
import Derived.Test.YteioaaegooebpaaGreatNoteMNp
import Derived.Test.YteioaaegooebpaaGreatNp5
/- The document's own note: Put. Conditions: none. -/
namespace Go.Proofs.YteioaaegooebpaaGreat
open Go.RowKit Go.PlainAid
set_option linter.unusedVariables false

set_option maxRecDepth 100000 in
theorem crPut_any (ep : Int) (mv : Value) (ms : List MemT) (fl : Int) (w : World) (hs : SliceOf memE 2 w mv ms) (hmk : ∀ m ∈ ms, memOk m) (he : -9223372036854775808 ≤ ep ∧ ep ≤ 9223372036854775807) (hf : 0 ≤ fl ∧ fl < 18446744073709551616) :
    Calls Tryz.prog 70 #[.agg #[.int .i64 ep, mv, .int .u64 fl]] w fun e w' => e = .returned (.tuple #[.string (putCf ep ms fl), .int .i64 (chkC ep ms)]) ∧ Below w.heap.size w w' := by
 have hcb : chkC ep ms = 0 → ((1 ≤ ep ∧ ep ≤ 1073741824) ∧ ms.length ≤ 4) := fun h => ⟨(chkC_ok h).1, (chkC_ok h).2.1.2⟩
 have hB0 := Below.refl w.heap.size w
 have hl_hs := sl_len hs
 refine co_enter (n := 54) Tryz.func70 rfl rfl rfl [(0, .agg #[.int .i64 ep, mv, .int .u64 fl])] rfl (fun a h0 => ?_)
 refine co_seq ?_
 refine co_reg ?_
 refine pw h0 rfl (op_new (v := fun N => pt N 0) (T := 26) (cs := #[.int .i64 ep, mv, .int .u64 fl]) (by kernel_rfl) (by kernel_rfl) (by kernel_rfl)) ?_; clear h0
 rintro _ w2 a1 ⟨N3, rfl, hN6, hz7, hk5, hg4⟩ h1
 have hz8 := hg4.size
 try dsimp only at h1
 refine pk0 (v := .string (⟨#[]⟩)) h1 rfl fun a9 h9 => ?_; clear h1
 refine pk0 (v := .int .i64 0) h9 rfl fun a10 h10 => ?_; clear h9
 refine pl_nil ?_
 refine co_then ?_
 refine co_seq ?_
 refine co_seq ?_
 refine co_reg ?_
 refine pk (v := .agg #[.int .i64 ep, mv, .int .u64 fl]) h10 rfl (rn_loadN rfl rfl Tryz.underlying26 rfl (by kernel_rfl) hk5.all) fun a11 h11 => ?_; clear h10
 have hB14 := hb_new hB0 hg4
 refine pw h11 rfl (op_call (args := #[.agg #[.int .i64 ep, mv, .int .u64 fl]]) (R := fun res xw => res = .int .i64 (chkC ep ms) ∧ Below w2.heap.size w2 xw) rfl rfl rfl (by kernel_rfl) (by kernel_rfl) (Tryz.call79 _ _) (wrcheck_any ep mv ms fl w2 (hs.below hB14) (by assumption) (by first | omega | (simp; done) | (simp; omega)) (by first | omega | (simp; done) | (simp; omega))) (by rintro e x ⟨rfl, hb15⟩; exact ⟨_, rfl, ⟨rfl, hb15⟩⟩)) ?_; clear h11
 rintro _ w13 a12 ⟨rfl, hb15⟩ h12
 have hz16 := hb15.size
 refine pk0 (v := .int .i64 (chkC ep ms)) h12 rfl fun a17 h17 => ?_; clear h12
 refine pl_nil ?_
 refine co_then ?_
 refine co_seq ?_
 refine co_reg ?_
 refine pk0 (v := .int .i64 (chkC ep ms)) h17 rfl fun a18 h18 => ?_; clear h17
 refine pk0 (v := .bool (chkC ep ms != 0)) h18 rfl fun a19 h19 => ?_; clear h18
 refine pl_nil ?_
 refine co_then ?_
 have hB21 := hb_call hB14 hb15
 cases hc20 : (chkC ep ms != 0)
 ·
  rw [hc20] at h19
  have hp22 : ¬ (chkC ep ms ≠ 0) := by first | simpa using hc20 | simpa [and_assoc] using hc20
  clear hc20
  refine co_false h19 rfl ?_
  refine wp_skip ?_
  refine co_then ?_
  refine co_seq ?_
  refine co_reg ?_
  refine pk0 (v := .agg #[.string (⟨#[]⟩), .int .i64 0]) h19 rfl fun a23 h23 => ?_; clear h19
  refine pw h23 rfl (op_new (v := fun N => pt N 0) (T := 76) (cs := #[.string (⟨#[]⟩), .int .i64 0]) (by kernel_rfl) (by kernel_rfl) (by kernel_rfl)) ?_; clear h23
  rintro _ w25 a24 ⟨N26, rfl, hN29, hz30, hk28, hg27⟩ h24
  have hz31 := hg27.size
  try dsimp only at h24
  refine pk0 (v := pt N26 0) h24 rfl fun a32 h32 => ?_; clear h24
  refine pl_nil ?_
  refine co_then ?_
  refine co_seq ?_
  refine co_reg ?_
  refine pk0 (v := pt N26 0) h32 rfl fun a33 h33 => ?_; clear h32
  refine pk0 (v := pt N3 0) h33 rfl fun a34 h34 => ?_; clear h33
  have hk35 := hk5.below hb15
  have hk36 := hk35.kept hg27 (by simp)
  refine pk (v := .int .i64 ep) h34 rfl (rn_load1 rfl rfl Tryz.isAgg3 (hk36.cell rfl)) fun a37 h37 => ?_; clear h34
  have ho40 := ox_of hk28
  refine pw h37 rfl (op_call (args := #[pt N26 0, .int .i64 ep]) (R := fun res xw => res = .tuple #[] ∧ OX N26 (([] : List UInt8) ++ putL ep) (0 + 9) xw ∧ w25.grownBy xw (some N26)) rfl rfl rfl (by kernel_rfl) (by kernel_rfl) (Tryz.call34 _ _) (ox_num N26 ([]) 0 ep w25 ho40 (by omega) (by omega) (by omega)) (by rintro e x ⟨rfl, h1, h2⟩; exact ⟨_, rfl, rfl, h1, h2⟩)) ?_; clear h37
  rintro _ w39 a38 ⟨rfl, ho41, hx42⟩ h38
  have hz43 := hx42.size
  have hl44 := ho41.lt
  refine pl_nil ?_
  refine co_then ?_
  refine co_seq ?_
  refine co_reg ?_
  refine pk0 (v := pt N26 0) h38 rfl fun a45 h45 => ?_; clear h38
  refine pk0 (v := pt N3 1) h45 rfl fun a46 h46 => ?_; clear h45
  have hk47 := hk36.kept hx42 (by simp; omega)
  refine pk (v := mv) h46 rfl (rn_load1 rfl rfl Tryz.isAgg24 (hk47.cell rfl)) fun a48 h48 => ?_; clear h46
  have hB49 := hb_new hB21 hg27
  have hB50 := hb_at hB49 hx42 (by omega)
  refine pk (v := .int .i64 ((ms.length : Nat) : Int)) h48 rfl (rn_len rfl rfl Tryz.underlying24 (hs.below hB50)) fun a51 h51 => ?_; clear h48
  refine pw h51 rfl (op_call (args := #[pt N26 0, .int .i64 ((ms.length : Nat) : Int)]) (R := fun res xw => res = .tuple #[] ∧ OX N26 ((([] : List UInt8) ++ putL ep) ++ putL ((ms.length : Nat) : Int)) (0 + 9 + 9) xw ∧ w39.grownBy xw (some N26)) rfl rfl rfl (by kernel_rfl) (by kernel_rfl) (Tryz.call34 _ _) (ox_num N26 (([] : List UInt8) ++ putL ep) (0 + 9) ((ms.length : Nat) : Int) w39 ho41 (by omega) (by omega) (by omega)) (by rintro e x ⟨rfl, h1, h2⟩; exact ⟨_, rfl, rfl, h1, h2⟩)) ?_; clear h51
  rintro _ w53 a52 ⟨rfl, ho54, hx55⟩ h52
  have hz56 := hx55.size
  have hl57 := ho54.lt
  refine pl_nil ?_
  refine co_then ?_
  refine co_seq ?_
  refine co_seq ?_
  refine co_reg ?_
  refine pk0 (v := .int .i64 0) h52 rfl fun a58 h58 => ?_; clear h52
  refine pl_nil ?_
  refine co_then ?_
  refine wp_block ?_
  have hck := (chkC_ok (ep := ep) (ms := ms) (by omega)).2.2.2
  have h59 : Slots 54 [(1, pt N3 0), (2, .string (⟨#[]⟩)), (3, .int .i64 0), (5, pt N26 0), (6, .int .i64 0)] _ := h58.sub ⟨rfl, rfl, rfl, rfl, rfl, trivial⟩; clear h58
  refine co_loop (fun mm a x => ∃ (i : Nat), Slots 54 [(1, pt N3 0), (2, .string (⟨#[]⟩)), (3, .int .i64 0), (5, pt N26 0), (6, .int .i64 ((i : Nat) : Int))] a ∧ mm = ms.length - i ∧ (i ≤ ms.length) ∧ OX N26 (putL ep ++ putL ((ms.length : Nat) : Int) ++ putM (ms.take i)) (18 + i * 18) x ∧ Below w.heap.size w x ∧ Blk x N3 26 #[.int .i64 ep, mv, .int .u64 fl]) (ms.length - 0) ?_ ?_
  have hB60 := hb_at hB50 hx55 (by omega)
  have hk61 := hk47.kept hx55 (by simp; omega)
  · exact ⟨0, h59.sub ⟨rfl, rfl, rfl, rfl, (slot_eq rfl (congrArg (Value.int .i64) (by first | rfl | omega))), trivial⟩, rfl, by omega, (ho54.eq (by first | (simp [putM]; done) | (rw [takeM_at (by assumption)]; simp [putM])) (by first | omega | (simp; done) | (simp; omega))), hB60, hk61⟩
  · rintro k62 a63 w64 ⟨i, h63, rfl, hi65, hf66, hB67, hk68⟩
    have hz69 := hB67.size
    have hl70 := hk68.lt
    have hl71 := hf66.lt
    refine co_seq ?_
    refine co_seq ?_
    refine co_reg ?_
    refine pk0 (v := .int .i64 ((i : Nat) : Int)) h63 rfl fun a72 h72 => ?_; clear h63
    refine pk0 (v := pt N3 1) h72 rfl fun a73 h73 => ?_; clear h72
    refine pk (v := mv) h73 rfl (rn_load1 rfl rfl Tryz.isAgg24 (hk68.cell rfl)) fun a74 h74 => ?_; clear h73
    refine pk (v := .int .i64 ((ms.length : Nat) : Int)) h74 rfl (rn_len rfl rfl Tryz.underlying24 (hs.below hB67)) fun a75 h75 => ?_; clear h74
    refine pk0 (v := .bool (decide (((i : Nat) : Int) < ((ms.length : Nat) : Int)))) h75 rfl fun a76 h76 => ?_; clear h75
    refine pl_nil ?_
    refine co_then ?_
    cases hc77 : (decide (((i : Nat) : Int) < ((ms.length : Nat) : Int)))
    ·
     rw [hc77] at h76
     have hp78 : ¬ (((i : Nat) : Int) < ((ms.length : Nat) : Int)) := of_decide_eq_false hc77
     clear hc77
     refine co_false h76 rfl ?_
     refine wp_exit ?_
     refine co_thenX ?_
     refine co_thenX ?_
     refine co_blockX ?_
     refine co_then ?_
     refine co_seq ?_
     refine co_reg ?_
     refine pk0 (v := pt N26 0) h76 rfl fun a79 h79 => ?_; clear h76
     refine pk0 (v := pt N3 2) h79 rfl fun a80 h80 => ?_; clear h79
     refine pk (v := .int .u64 fl) h80 rfl (rn_load1 rfl rfl Tryz.isAgg22 (hk68.cell rfl)) fun a81 h81 => ?_; clear h80
     refine pw h81 rfl (op_call (args := #[pt N26 0, .int .u64 fl]) (R := fun res xw => res = .tuple #[] ∧ OX N26 ((putL ep ++ putL ((ms.length : Nat) : Int) ++ putM (ms.take i)) ++ putL fl) (18 + i * 18 + 9) xw ∧ w64.grownBy xw (some N26)) rfl rfl rfl (by kernel_rfl) (by kernel_rfl) (Tryz.call73 _ _) (ox_big N26 (putL ep ++ putL ((ms.length : Nat) : Int) ++ putM (ms.take i)) (18 + i * 18) fl w64 hf66 (by omega) (by omega) (by omega)) (by rintro e x ⟨rfl, h1, h2⟩; exact ⟨_, rfl, rfl, h1, h2⟩)) ?_; clear h81
     rintro _ w83 a82 ⟨rfl, ho84, hx85⟩ h82
     have hz86 := hx85.size
     have hl87 := ho84.lt
     refine pl_nil ?_
     refine co_then ?_
     refine co_seq ?_
     refine co_reg ?_
     refine pk0 (v := pt N26 0) h82 rfl fun a88 h88 => ?_; clear h82
     refine pw h88 rfl (op_call (args := #[pt N26 0]) (R := fun res xw => res = .tuple #[.string (⟨((putL ep ++ putL ((ms.length : Nat) : Int) ++ putM (ms.take i)) ++ putL fl).toArray⟩), .int .i64 0] ∧ Below w83.heap.size w83 xw) rfl rfl rfl (by kernel_rfl) (by kernel_rfl) (Tryz.call37 _ _) (ox_done N26 ((putL ep ++ putL ((ms.length : Nat) : Int) ++ putM (ms.take i)) ++ putL fl) (18 + i * 18 + 9) w83 ho84) (by rintro e x ⟨rfl, h2⟩; exact ⟨_, rfl, rfl, h2⟩)) ?_; clear h88
     rintro _ w90 a89 ⟨rfl, hb91⟩ h89
     have hz92 := hb91.size
     refine pk0 (v := .string (⟨((putL ep ++ putL ((ms.length : Nat) : Int) ++ putM (ms.take i)) ++ putL fl).toArray⟩)) h89 rfl fun a93 h93 => ?_; clear h89
     refine pk0 (v := .int .i64 0) h93 rfl fun a94 h94 => ?_; clear h93
     refine pk0 (v := .string (⟨((putL ep ++ putL ((ms.length : Nat) : Int) ++ putM (ms.take i)) ++ putL fl).toArray⟩)) h94 rfl fun a95 h95 => ?_; clear h94
     refine pk0 (v := .int .i64 0) h95 rfl fun a96 h96 => ?_; clear h95
     refine pl_nil ?_
     refine co_then ?_
     refine wp_ret ?_
     refine co_ret2 h96 rfl rfl rfl ?_
     have hB97 := hb_at hB67 hx85 (by omega)
     have hB98 := hb_call hB97 hb91
     exact ⟨by rw [putCf_ok (by omega), show chkC ep ms = 0 by omega, List.take_of_length_le (show ms.length ≤ i by omega)]; simp [putC], hB98⟩
    ·
     rw [hc77] at h76
     have hp99 : ((i : Nat) : Int) < ((ms.length : Nat) : Int) := of_decide_eq_true hc77
     clear hc77
     refine co_true h76 rfl ?_
     refine wp_skip ?_
     refine co_then ?_
     refine co_seq ?_
     refine wp_block ?_
     refine co_seq ?_
     refine co_reg ?_
     refine pk0 (v := pt N26 0) h76 rfl fun a100 h100 => ?_; clear h76
     refine pk0 (v := pt N3 1) h100 rfl fun a101 h101 => ?_; clear h100
     refine pk (v := mv) h101 rfl (rn_load1 rfl rfl Tryz.isAgg24 (hk68.cell rfl)) fun a102 h102 => ?_; clear h101
     refine pk0 (v := .int .i64 ((i : Nat) : Int)) h102 rfl fun a103 h103 => ?_; clear h102
     obtain ⟨y104, hy104⟩ : ∃ z, ms[i]? = some z := ⟨_, List.getElem?_eq_getElem (by first | omega | (simp; done) | (simp; omega))⟩
     have oky104 := hck _ (List.mem_of_getElem? hy104)
     have k105 : (0 ≤ y104.1 ∧ y104.1 < 4) ∧ (1 ≤ y104.2 ∧ y104.2 ≤ 1073741824) := oky104
     refine pk (v := pt (blkOf mv) (offOf mv + i * 2)) h103 rfl (rn_index rfl rfl rfl Tryz.underlying24 Tryz.sizeOf154 (hs.below hB67) (by omega) (by first | omega | (simp; done) | (simp; omega))) fun a106 h106 => ?_; clear h103
     refine pk0 (v := pt (blkOf mv) (offOf mv + i * 2)) h106 rfl fun a107 h107 => ?_; clear h106
     refine pk (v := .int .i64 y104.1) h107 rfl (rn_load1 rfl rfl Tryz.isAgg3 ((sl_at (hs.below hB67) hy104) 0 _ rfl)) fun a108 h108 => ?_; clear h107
     refine pw h108 rfl (op_call (args := #[pt N26 0, .int .i64 y104.1]) (R := fun res xw => res = .tuple #[] ∧ OX N26 ((putL ep ++ putL ((ms.length : Nat) : Int) ++ putM (ms.take i)) ++ putL y104.1) (18 + i * 18 + 9) xw ∧ w64.grownBy xw (some N26)) rfl rfl rfl (by kernel_rfl) (by kernel_rfl) (Tryz.call34 _ _) (ox_num N26 (putL ep ++ putL ((ms.length : Nat) : Int) ++ putM (ms.take i)) (18 + i * 18) y104.1 w64 hf66 (by omega) (by omega) (by omega)) (by rintro e x ⟨rfl, h1, h2⟩; exact ⟨_, rfl, rfl, h1, h2⟩)) ?_; clear h108
     rintro _ w110 a109 ⟨rfl, ho111, hx112⟩ h109
     have hz113 := hx112.size
     have hl114 := ho111.lt
     refine pl_nil ?_
     refine co_then ?_
     refine co_reg ?_
     refine pk0 (v := pt N26 0) h109 rfl fun a115 h115 => ?_; clear h109
     refine pk0 (v := pt N3 1) h115 rfl fun a116 h116 => ?_; clear h115
     have hk117 := hk68.kept hx112 (by simp; omega)
     refine pk (v := mv) h116 rfl (rn_load1 rfl rfl Tryz.isAgg24 (hk117.cell rfl)) fun a118 h118 => ?_; clear h116
     refine pk0 (v := .int .i64 ((i : Nat) : Int)) h118 rfl fun a119 h119 => ?_; clear h118
     have hB120 := hb_at hB67 hx112 (by omega)
     refine pk (v := pt (blkOf mv) (offOf mv + i * 2)) h119 rfl (rn_index rfl rfl rfl Tryz.underlying24 Tryz.sizeOf154 (hs.below hB120) (by omega) (by first | omega | (simp; done) | (simp; omega))) fun a121 h121 => ?_; clear h119
     refine pk0 (v := pt (blkOf mv) (offOf mv + i * 2 + 1)) h121 rfl fun a122 h122 => ?_; clear h121
     refine pk (v := .int .i64 y104.2) h122 rfl (rn_load1 rfl rfl Tryz.isAgg3 ((sl_at (hs.below hB120) hy104) 1 _ rfl)) fun a123 h123 => ?_; clear h122
     refine pw h123 rfl (op_call (args := #[pt N26 0, .int .i64 y104.2]) (R := fun res xw => res = .tuple #[] ∧ OX N26 (((putL ep ++ putL ((ms.length : Nat) : Int) ++ putM (ms.take i)) ++ putL y104.1) ++ putL y104.2) (18 + i * 18 + 9 + 9) xw ∧ w110.grownBy xw (some N26)) rfl rfl rfl (by kernel_rfl) (by kernel_rfl) (Tryz.call34 _ _) (ox_num N26 ((putL ep ++ putL ((ms.length : Nat) : Int) ++ putM (ms.take i)) ++ putL y104.1) (18 + i * 18 + 9) y104.2 w110 ho111 (by omega) (by omega) (by omega)) (by rintro e x ⟨rfl, h1, h2⟩; exact ⟨_, rfl, rfl, h1, h2⟩)) ?_; clear h123
     rintro _ w125 a124 ⟨rfl, ho126, hx127⟩ h124
     have hz128 := hx127.size
     have hl129 := ho126.lt
     refine pl_nil ?_
     refine co_blockN ?_
     refine co_then ?_
     refine co_reg ?_
     refine pk0 (v := .int .i64 ((i : Nat) : Int)) h124 rfl fun a130 h130 => ?_; clear h124
     refine pk (v := .int .i64 ((i + 1 : Nat) : Int)) h130 rfl (rn_arith' rfl rfl rfl rfl rfl rfl (IntWalk.i64_in _ (by omega)) (by omega)) fun a131 h131 => ?_; clear h130
     refine pk0 (v := .int .i64 ((i + 1 : Nat) : Int)) h131 rfl fun a132 h132 => ?_; clear h131
     refine pl_nil ?_
     refine co_then ?_
     refine ⟨(ms.length - (i + 1)), by omega, ?_⟩
     have hB133 := hb_at hB120 hx127 (by omega)
     have hk134 := hk117.kept hx127 (by simp; omega)
     exact ⟨i + 1, h132.sub ⟨rfl, rfl, rfl, rfl, rfl, trivial⟩, rfl, by omega, (ho126.eq (by first | (simp [putM]; done) | (rw [takeM_at (by assumption)]; simp [putM])) (by first | omega | (simp; done) | (simp; omega))), hB133, hk134⟩
 ·
  rw [hc20] at h19
  have hp135 : chkC ep ms ≠ 0 := by first | simpa using hc20 | simpa [and_assoc] using hc20
  clear hc20
  refine co_true h19 rfl ?_
  refine co_seq ?_
  refine co_reg ?_
  refine pk0 (v := .int .i64 (chkC ep ms)) h19 rfl fun a136 h136 => ?_; clear h19
  refine pk0 (v := .string (⟨#[]⟩)) h136 rfl fun a137 h137 => ?_; clear h136
  refine pk0 (v := .int .i64 (chkC ep ms)) h137 rfl fun a138 h138 => ?_; clear h137
  refine pl_nil ?_
  refine co_then ?_
  refine wp_ret ?_
  refine co_thenR ?_
  refine co_ret2 h138 rfl rfl rfl ?_
  exact ⟨by rw [putCf_err (by assumption)], hB21⟩
set_option maxRecDepth 100000 in
theorem rnPut_any (d : NoteD) (mv : Value) (lv : Value) (ev : Value) (w : World) (hm : SliceOf memE 2 w mv d.ms) (hg : SliceOf (intE .i64) 1 w lv d.lg) (he : SliceOf opE 3 w ev d.el) (hR : NoteR d) :
    Calls Tryz.prog 21 #[.agg #[.int .i64 d.k, .int .i64 d.n, .int .u64 d.t, .int .i64 d.ep, mv, .int .u64 d.fl, lv, .int .i64 d.ec, .int .i64 d.er, ev, .int .u64 d.ets, .int .i64 d.pid, .int .u64 d.pat, .int .i64 d.plf, .int .i64 d.sc, .int .i64 d.sr, .int .i64 d.se, .int .i64 d.sp]] w fun e w' => e = .returned (.tuple #[.string (putN d), .int .i64 (chkN d)]) ∧ Below w.heap.size w w' := by
 have hrng := hR.rng
 have hcc := fun h => chkN_ok (d := d) h
 have hsm1 := putCf_small (ep := d.ep) (ms := d.ms) (fl := d.fl)
 have hsm2 := putE_small (c := d.ec) (r := d.er) (l := d.el) (ts := d.ets)
 have hB0 := Below.refl w.heap.size w
 have hl_hm := sl_len hm
 have hl_hg := sl_len hg
 have hl_he := sl_len he
 refine co_enter (n := 137) Tryz.func21 rfl rfl rfl [(0, .agg #[.int .i64 d.k, .int .i64 d.n, .int .u64 d.t, .int .i64 d.ep, mv, .int .u64 d.fl, lv, .int .i64 d.ec, .int .i64 d.er, ev, .int .u64 d.ets, .int .i64 d.pid, .int .u64 d.pat, .int .i64 d.plf, .int .i64 d.sc, .int .i64 d.sr, .int .i64 d.se, .int .i64 d.sp])] rfl (fun a h0 => ?_)
 refine co_seq ?_
 refine co_reg ?_
 refine pw h0 rfl (op_new (v := fun N => pt N 0) (T := 58) (cs := #[.int .i64 d.k, .int .i64 d.n, .int .u64 d.t, .int .i64 d.ep, mv, .int .u64 d.fl, lv, .int .i64 d.ec, .int .i64 d.er, ev, .int .u64 d.ets, .int .i64 d.pid, .int .u64 d.pat, .int .i64 d.plf, .int .i64 d.sc, .int .i64 d.sr, .int .i64 d.se, .int .i64 d.sp]) (by kernel_rfl) (by kernel_rfl) (by kernel_rfl)) ?_; clear h0
 rintro _ w2 a1 ⟨N3, rfl, hN6, hz7, hk5, hg4⟩ h1
 have hz8 := hg4.size
 try dsimp only at h1
 refine pk0 (v := .string (⟨#[]⟩)) h1 rfl fun a9 h9 => ?_; clear h1
 refine pk0 (v := .int .i64 0) h9 rfl fun a10 h10 => ?_; clear h9
 refine pl_nil ?_
 refine co_then ?_
 refine co_seq ?_
 refine co_seq ?_
 refine co_reg ?_
 refine pk (v := .agg #[.int .i64 d.k, .int .i64 d.n, .int .u64 d.t, .int .i64 d.ep, mv, .int .u64 d.fl, lv, .int .i64 d.ec, .int .i64 d.er, ev, .int .u64 d.ets, .int .i64 d.pid, .int .u64 d.pat, .int .i64 d.plf, .int .i64 d.sc, .int .i64 d.sr, .int .i64 d.se, .int .i64 d.sp]) h10 rfl (rn_loadN rfl rfl Tryz.underlying58 rfl (by kernel_rfl) hk5.all) fun a11 h11 => ?_; clear h10
 have hB14 := hb_new hB0 hg4
 refine pw h11 rfl (op_call (args := #[.agg #[.int .i64 d.k, .int .i64 d.n, .int .u64 d.t, .int .i64 d.ep, mv, .int .u64 d.fl, lv, .int .i64 d.ec, .int .i64 d.er, ev, .int .u64 d.ets, .int .i64 d.pid, .int .u64 d.pat, .int .i64 d.plf, .int .i64 d.sc, .int .i64 d.sr, .int .i64 d.se, .int .i64 d.sp]]) (R := fun res xw => res = .int .i64 (chkN d) ∧ Below w2.heap.size w2 xw) rfl rfl rfl (by kernel_rfl) (by kernel_rfl) (Tryz.call23 _ _) (rnCheck_any d mv lv ev w2 (hm.below hB14) (hg.below hB14) (he.below hB14) hR) (by rintro e x ⟨rfl, hb15⟩; exact ⟨_, rfl, ⟨rfl, hb15⟩⟩)) ?_; clear h11
 rintro _ w13 a12 ⟨rfl, hb15⟩ h12
 have hz16 := hb15.size
 refine pk0 (v := .int .i64 (chkN d)) h12 rfl fun a17 h17 => ?_; clear h12
 refine pl_nil ?_
 refine co_then ?_
 refine co_seq ?_
 refine co_reg ?_
 refine pk0 (v := .int .i64 (chkN d)) h17 rfl fun a18 h18 => ?_; clear h17
 refine pk0 (v := .bool (chkN d != 0)) h18 rfl fun a19 h19 => ?_; clear h18
 refine pl_nil ?_
 refine co_then ?_
 have hB21 := hb_call hB14 hb15
 cases hc20 : (chkN d != 0)
 ·
  rw [hc20] at h19
  have hp22 : ¬ (chkN d ≠ 0) := by first | simpa using hc20 | simpa [and_assoc] using hc20
  clear hc20
  refine co_false h19 rfl ?_
  refine wp_skip ?_
  refine co_then ?_
  refine co_seq ?_
  refine co_reg ?_
  refine pk0 (v := .agg #[.string (⟨#[]⟩), .int .i64 0]) h19 rfl fun a23 h23 => ?_; clear h19
  refine pw h23 rfl (op_new (v := fun N => pt N 0) (T := 76) (cs := #[.string (⟨#[]⟩), .int .i64 0]) (by kernel_rfl) (by kernel_rfl) (by kernel_rfl)) ?_; clear h23
  rintro _ w25 a24 ⟨N26, rfl, hN29, hz30, hk28, hg27⟩ h24
  have hz31 := hg27.size
  try dsimp only at h24
  refine pk0 (v := pt N26 0) h24 rfl fun a32 h32 => ?_; clear h24
  refine pl_nil ?_
  refine co_then ?_
  refine co_seq ?_
  refine co_reg ?_
  refine pk0 (v := pt N26 0) h32 rfl fun a33 h33 => ?_; clear h32
  refine pk0 (v := pt N3 0) h33 rfl fun a34 h34 => ?_; clear h33
  have hk35 := hk5.below hb15
  have hk36 := hk35.kept hg27 (by simp)
  refine pk (v := .int .i64 d.k) h34 rfl (rn_load1 rfl rfl Tryz.isAgg3 (hk36.cell rfl)) fun a37 h37 => ?_; clear h34
  have ho40 := ox_of hk28
  refine pw h37 rfl (op_call (args := #[pt N26 0, .int .i64 d.k]) (R := fun res xw => res = .tuple #[] ∧ OX N26 (([] : List UInt8) ++ putL d.k) (0 + 9) xw ∧ w25.grownBy xw (some N26)) rfl rfl rfl (by kernel_rfl) (by kernel_rfl) (Tryz.call34 _ _) (ox_num N26 ([]) 0 d.k w25 ho40 (by omega) (by omega) (by omega)) (by rintro e x ⟨rfl, h1, h2⟩; exact ⟨_, rfl, rfl, h1, h2⟩)) ?_; clear h37
  rintro _ w39 a38 ⟨rfl, ho41, hx42⟩ h38
  have hz43 := hx42.size
  have hl44 := ho41.lt
  refine pl_nil ?_
  refine co_then ?_
  refine co_seq ?_
  refine co_seq ?_
  refine co_reg ?_
  refine pk0 (v := pt N3 0) h38 rfl fun a45 h45 => ?_; clear h38
  have hk46 := hk36.kept hx42 (by simp; omega)
  refine pk (v := .int .i64 d.k) h45 rfl (rn_load1 rfl rfl Tryz.isAgg3 (hk46.cell rfl)) fun a47 h47 => ?_; clear h45
  refine pl_nil ?_
  refine co_then ?_
  refine wp_block ?_
  refine co_seq ?_
  refine co_reg ?_
  refine pk0 (v := .bool (d.k == 1)) h47 rfl fun a48 h48 => ?_; clear h47
  refine pk0 (v := .bool (d.k == 1)) h48 rfl fun a49 h49 => ?_; clear h48
  refine pl_nil ?_
  refine co_then ?_
  have hB51 := hb_new hB21 hg27
  have hB52 := hb_at hB51 hx42 (by omega)
  cases hc50 : (d.k == 1)
  ·
   rw [hc50] at h49
   have hp53 : ¬ (d.k = 1) := by first | simpa using hc50 | simpa [and_assoc] using hc50
   clear hc50
   refine co_false h49 rfl ?_
   refine co_seq ?_
   refine co_reg ?_
   refine pk0 (v := .bool (d.k == 2)) h49 rfl fun a54 h54 => ?_; clear h49
   refine pk0 (v := .bool (d.k == 2)) h54 rfl fun a55 h55 => ?_; clear h54
   refine pl_nil ?_
   refine co_then ?_
   cases hc56 : (d.k == 2)
   ·
    rw [hc56] at h55
    have hp57 : ¬ (d.k = 2) := by first | simpa using hc56 | simpa [and_assoc] using hc56
    clear hc56
    refine co_false h55 rfl ?_
    refine co_seq ?_
    refine co_reg ?_
    refine pk0 (v := .bool (d.k == 3)) h55 rfl fun a58 h58 => ?_; clear h55
    refine pk0 (v := .bool (d.k == 3)) h58 rfl fun a59 h59 => ?_; clear h58
    refine pl_nil ?_
    refine co_then ?_
    cases hc60 : (d.k == 3)
    ·
     rw [hc60] at h59
     have hp61 : ¬ (d.k = 3) := by first | simpa using hc60 | simpa [and_assoc] using hc60
     clear hc60
     refine co_false h59 rfl ?_
     refine co_seq ?_
     refine co_reg ?_
     refine pk0 (v := .bool (d.k == 4)) h59 rfl fun a62 h62 => ?_; clear h59
     refine pk0 (v := .bool (d.k == 4)) h62 rfl fun a63 h63 => ?_; clear h62
     refine pl_nil ?_
     refine co_then ?_
     cases hc64 : (d.k == 4)
     ·
      rw [hc64] at h63
      have hp65 : ¬ (d.k = 4) := by first | simpa using hc64 | simpa [and_assoc] using hc64
      clear hc64
      refine co_false h63 rfl ?_
      refine co_seq ?_
      refine co_seq ?_
      refine co_reg ?_
      refine pk0 (v := .bool (d.k == 5)) h63 rfl fun a66 h66 => ?_; clear h63
      refine pk0 (v := .bool (d.k == 5)) h66 rfl fun a67 h67 => ?_; clear h66
      refine pl_nil ?_
      refine co_then ?_
      cases hc68 : (d.k == 5)
      ·
       rw [hc68] at h67
       have hp69 : ¬ (d.k = 5) := by first | simpa using hc68 | simpa [and_assoc] using hc68
       clear hc68
       refine co_false h67 rfl ?_
       refine co_reg ?_
       refine pk0 (v := .bool (d.k == 7)) h67 rfl fun a70 h70 => ?_; clear h67
       refine pk0 (v := .bool (d.k == 7)) h70 rfl fun a71 h71 => ?_; clear h70
       refine pl_nil ?_
       refine co_then ?_
       cases hc72 : (d.k == 7)
       ·
        rw [hc72] at h71
        have hp73 : ¬ (d.k = 7) := by first | simpa using hc72 | simpa [and_assoc] using hc72
        clear hc72
        refine co_false h71 rfl ?_
        refine co_seq ?_
        refine co_reg ?_
        refine pk0 (v := .bool (d.k == 6)) h71 rfl fun a74 h74 => ?_; clear h71
        refine pk0 (v := .bool (d.k == 6)) h74 rfl fun a75 h75 => ?_; clear h74
        refine pl_nil ?_
        refine co_then ?_
        cases hc76 : (d.k == 6)
        ·
         rw [hc76] at h75
         have hp77 : ¬ (d.k = 6) := by first | simpa using hc76 | simpa [and_assoc] using hc76
         clear hc76
         refine co_false h75 rfl ?_
         refine co_seq ?_
         refine co_reg ?_
         refine pk0 (v := pt N26 0) h75 rfl fun a78 h78 => ?_; clear h75
         refine pk0 (v := pt N3 14) h78 rfl fun a79 h79 => ?_; clear h78
         refine pk0 (v := pt N3 14) h79 rfl fun a80 h80 => ?_; clear h79
         refine pk (v := .int .i64 d.sc) h80 rfl (rn_load1 rfl rfl Tryz.isAgg3 (hk46.cell rfl)) fun a81 h81 => ?_; clear h80
         refine pw h81 rfl (op_call (args := #[pt N26 0, .int .i64 d.sc]) (R := fun res xw => res = .tuple #[] ∧ OX N26 ((([] : List UInt8) ++ putL d.k) ++ putL d.sc) (0 + 9 + 9) xw ∧ w39.grownBy xw (some N26)) rfl rfl rfl (by kernel_rfl) (by kernel_rfl) (Tryz.call34 _ _) (ox_num N26 (([] : List UInt8) ++ putL d.k) (0 + 9) d.sc w39 ho41 (by omega) (by omega) (by omega)) (by rintro e x ⟨rfl, h1, h2⟩; exact ⟨_, rfl, rfl, h1, h2⟩)) ?_; clear h81
         rintro _ w83 a82 ⟨rfl, ho84, hx85⟩ h82
         have hz86 := hx85.size
         have hl87 := ho84.lt
         refine pl_nil ?_
         refine co_then ?_
         refine co_seq ?_
         refine co_reg ?_
         refine pk0 (v := pt N26 0) h82 rfl fun a88 h88 => ?_; clear h82
         refine pk0 (v := pt N3 14) h88 rfl fun a89 h89 => ?_; clear h88
         refine pk0 (v := pt N3 15) h89 rfl fun a90 h90 => ?_; clear h89
         have hk91 := hk46.kept hx85 (by simp; omega)
         refine pk (v := .int .i64 d.sr) h90 rfl (rn_load1 rfl rfl Tryz.isAgg3 (hk91.cell rfl)) fun a92 h92 => ?_; clear h90
         refine pw h92 rfl (op_call (args := #[pt N26 0, .int .i64 d.sr]) (R := fun res xw => res = .tuple #[] ∧ OX N26 (((([] : List UInt8) ++ putL d.k) ++ putL d.sc) ++ putL d.sr) (0 + 9 + 9 + 9) xw ∧ w83.grownBy xw (some N26)) rfl rfl rfl (by kernel_rfl) (by kernel_rfl) (Tryz.call34 _ _) (ox_num N26 ((([] : List UInt8) ++ putL d.k) ++ putL d.sc) (0 + 9 + 9) d.sr w83 ho84 (by omega) (by omega) (by omega)) (by rintro e x ⟨rfl, h1, h2⟩; exact ⟨_, rfl, rfl, h1, h2⟩)) ?_; clear h92
         rintro _ w94 a93 ⟨rfl, ho95, hx96⟩ h93
         have hz97 := hx96.size
         have hl98 := ho95.lt
         refine pl_nil ?_
         refine co_then ?_
         refine co_seq ?_
         refine co_reg ?_
         refine pk0 (v := pt N26 0) h93 rfl fun a99 h99 => ?_; clear h93
         refine pk0 (v := pt N3 14) h99 rfl fun a100 h100 => ?_; clear h99
         refine pk0 (v := pt N3 16) h100 rfl fun a101 h101 => ?_; clear h100
         have hk102 := hk91.kept hx96 (by simp; omega)
         refine pk (v := .int .i64 d.se) h101 rfl (rn_load1 rfl rfl Tryz.isAgg23 (hk102.cell rfl)) fun a103 h103 => ?_; clear h101
         refine pw h103 rfl (op_call (args := #[pt N26 0, .int .i64 d.se]) (R := fun res xw => res = .tuple #[] ∧ OX N26 ((((([] : List UInt8) ++ putL d.k) ++ putL d.sc) ++ putL d.sr) ++ putL d.se) (0 + 9 + 9 + 9 + 9) xw ∧ w94.grownBy xw (some N26)) rfl rfl rfl (by kernel_rfl) (by kernel_rfl) (Tryz.call34 _ _) (ox_num N26 (((([] : List UInt8) ++ putL d.k) ++ putL d.sc) ++ putL d.sr) (0 + 9 + 9 + 9) d.se w94 ho95 (by omega) (by omega) (by omega)) (by rintro e x ⟨rfl, h1, h2⟩; exact ⟨_, rfl, rfl, h1, h2⟩)) ?_; clear h103
         rintro _ w105 a104 ⟨rfl, ho106, hx107⟩ h104
         have hz108 := hx107.size
         have hl109 := ho106.lt
         refine pl_nil ?_
         refine co_then ?_
         refine co_reg ?_
         refine pk0 (v := pt N26 0) h104 rfl fun a110 h110 => ?_; clear h104
         refine pk0 (v := pt N3 14) h110 rfl fun a111 h111 => ?_; clear h110
         refine pk0 (v := pt N3 17) h111 rfl fun a112 h112 => ?_; clear h111
         have hk113 := hk102.kept hx107 (by simp; omega)
         refine pk (v := .int .i64 d.sp) h112 rfl (rn_load1 rfl rfl Tryz.isAgg3 (hk113.cell rfl)) fun a114 h114 => ?_; clear h112
         refine pw h114 rfl (op_call (args := #[pt N26 0, .int .i64 d.sp]) (R := fun res xw => res = .tuple #[] ∧ OX N26 (((((([] : List UInt8) ++ putL d.k) ++ putL d.sc) ++ putL d.sr) ++ putL d.se) ++ putL d.sp) (0 + 9 + 9 + 9 + 9 + 9) xw ∧ w105.grownBy xw (some N26)) rfl rfl rfl (by kernel_rfl) (by kernel_rfl) (Tryz.call34 _ _) (ox_num N26 ((((([] : List UInt8) ++ putL d.k) ++ putL d.sc) ++ putL d.sr) ++ putL d.se) (0 + 9 + 9 + 9 + 9) d.sp w105 ho106 (by omega) (by omega) (by omega)) (by rintro e x ⟨rfl, h1, h2⟩; exact ⟨_, rfl, rfl, h1, h2⟩)) ?_; clear h114
         rintro _ w116 a115 ⟨rfl, ho117, hx118⟩ h115
         have hz119 := hx118.size
         have hl120 := ho117.lt
         refine pl_nil ?_
         refine co_blockN ?_
         refine co_then ?_
         refine co_seq ?_
         refine co_reg ?_
         refine pk0 (v := pt N26 0) h115 rfl fun a121 h121 => ?_; clear h115
         refine pw h121 rfl (op_call (args := #[pt N26 0]) (R := fun res xw => res = .tuple #[.string (⟨(((((([] : List UInt8) ++ putL d.k) ++ putL d.sc) ++ putL d.sr) ++ putL d.se) ++ putL d.sp).toArray⟩), .int .i64 0] ∧ Below w116.heap.size w116 xw) rfl rfl rfl (by kernel_rfl) (by kernel_rfl) (Tryz.call37 _ _) (ox_done N26 (((((([] : List UInt8) ++ putL d.k) ++ putL d.sc) ++ putL d.sr) ++ putL d.se) ++ putL d.sp) (0 + 9 + 9 + 9 + 9 + 9) w116 ho117) (by rintro e x ⟨rfl, h2⟩; exact ⟨_, rfl, rfl, h2⟩)) ?_; clear h121
         rintro _ w123 a122 ⟨rfl, hb124⟩ h122
         have hz125 := hb124.size
         refine pk0 (v := .string (⟨(((((([] : List UInt8) ++ putL d.k) ++ putL d.sc) ++ putL d.sr) ++ putL d.se) ++ putL d.sp).toArray⟩)) h122 rfl fun a126 h126 => ?_; clear h122
         refine pk0 (v := .int .i64 0) h126 rfl fun a127 h127 => ?_; clear h126
         refine pk0 (v := .string (⟨(((((([] : List UInt8) ++ putL d.k) ++ putL d.sc) ++ putL d.sr) ++ putL d.se) ++ putL d.sp).toArray⟩)) h127 rfl fun a128 h128 => ?_; clear h127
         refine pk0 (v := .int .i64 0) h128 rfl fun a129 h129 => ?_; clear h128
         refine pl_nil ?_
         refine co_then ?_
         refine wp_ret ?_
         refine co_ret2 h129 rfl rfl rfl ?_
         have hB130 := hb_at hB52 hx85 (by omega)
         have hB131 := hb_at hB130 hx96 (by omega)
         have hB132 := hb_at hB131 hx107 (by omega)
         have hB133 := hb_at hB132 hx118 (by omega)
         have hB134 := hb_call hB133 hb124
         have hc0 : chkN d = 0 := by omega
         have hkk : d.k = 8 := by omega
         exact ⟨by rw [putN_ok hc0, hc0]; simp [putNL, txt, hkk], hB134⟩
        ·
         rw [hc76] at h75
         have hp135 : d.k = 6 := by first | simpa using hc76 | simpa [and_assoc] using hc76
         clear hc76
         refine co_true h75 rfl ?_
         refine co_seq ?_
         refine co_reg ?_
         refine pk0 (v := pt N26 0) h75 rfl fun a136 h136 => ?_; clear h75
         refine pk0 (v := pt N3 11) h136 rfl fun a137 h137 => ?_; clear h136
         refine pk0 (v := pt N3 11) h137 rfl fun a138 h138 => ?_; clear h137
         refine pk (v := .int .i64 d.pid) h138 rfl (rn_load1 rfl rfl Tryz.isAgg3 (hk46.cell rfl)) fun a139 h139 => ?_; clear h138
         refine pw h139 rfl (op_call (args := #[pt N26 0, .int .i64 d.pid]) (R := fun res xw => res = .tuple #[] ∧ OX N26 ((([] : List UInt8) ++ putL d.k) ++ putL d.pid) (0 + 9 + 9) xw ∧ w39.grownBy xw (some N26)) rfl rfl rfl (by kernel_rfl) (by kernel_rfl) (Tryz.call34 _ _) (ox_num N26 (([] : List UInt8) ++ putL d.k) (0 + 9) d.pid w39 ho41 (by omega) (by omega) (by omega)) (by rintro e x ⟨rfl, h1, h2⟩; exact ⟨_, rfl, rfl, h1, h2⟩)) ?_; clear h139
         rintro _ w141 a140 ⟨rfl, ho142, hx143⟩ h140
         have hz144 := hx143.size
         have hl145 := ho142.lt
         refine pl_nil ?_
         refine co_then ?_
         refine co_seq ?_
         refine co_reg ?_
         refine pk0 (v := pt N26 0) h140 rfl fun a146 h146 => ?_; clear h140
         refine pk0 (v := pt N3 11) h146 rfl fun a147 h147 => ?_; clear h146
         refine pk0 (v := pt N3 12) h147 rfl fun a148 h148 => ?_; clear h147
         have hk149 := hk46.kept hx143 (by simp; omega)
         refine pk (v := .int .u64 d.pat) h148 rfl (rn_load1 rfl rfl Tryz.isAgg22 (hk149.cell rfl)) fun a150 h150 => ?_; clear h148
         refine pw h150 rfl (op_call (args := #[pt N26 0, .int .u64 d.pat]) (R := fun res xw => res = .tuple #[] ∧ OX N26 (((([] : List UInt8) ++ putL d.k) ++ putL d.pid) ++ putL d.pat) (0 + 9 + 9 + 9) xw ∧ w141.grownBy xw (some N26)) rfl rfl rfl (by kernel_rfl) (by kernel_rfl) (Tryz.call73 _ _) (ox_big N26 ((([] : List UInt8) ++ putL d.k) ++ putL d.pid) (0 + 9 + 9) d.pat w141 ho142 (by omega) (by omega) (by omega)) (by rintro e x ⟨rfl, h1, h2⟩; exact ⟨_, rfl, rfl, h1, h2⟩)) ?_; clear h150
         rintro _ w152 a151 ⟨rfl, ho153, hx154⟩ h151
         have hz155 := hx154.size
         have hl156 := ho153.lt
         refine pl_nil ?_
         refine co_then ?_
         refine co_reg ?_
         refine pk0 (v := pt N26 0) h151 rfl fun a157 h157 => ?_; clear h151
         refine pk0 (v := pt N3 11) h157 rfl fun a158 h158 => ?_; clear h157
         refine pk0 (v := pt N3 13) h158 rfl fun a159 h159 => ?_; clear h158
         have hk160 := hk149.kept hx154 (by simp; omega)
         refine pk (v := .int .i64 d.plf) h159 rfl (rn_load1 rfl rfl Tryz.isAgg3 (hk160.cell rfl)) fun a161 h161 => ?_; clear h159
         refine pw h161 rfl (op_call (args := #[pt N26 0, .int .i64 d.plf]) (R := fun res xw => res = .tuple #[] ∧ OX N26 ((((([] : List UInt8) ++ putL d.k) ++ putL d.pid) ++ putL d.pat) ++ putL d.plf) (0 + 9 + 9 + 9 + 9) xw ∧ w152.grownBy xw (some N26)) rfl rfl rfl (by kernel_rfl) (by kernel_rfl) (Tryz.call34 _ _) (ox_num N26 (((([] : List UInt8) ++ putL d.k) ++ putL d.pid) ++ putL d.pat) (0 + 9 + 9 + 9) d.plf w152 ho153 (by omega) (by omega) (by omega)) (by rintro e x ⟨rfl, h1, h2⟩; exact ⟨_, rfl, rfl, h1, h2⟩)) ?_; clear h161
         rintro _ w163 a162 ⟨rfl, ho164, hx165⟩ h162
         have hz166 := hx165.size
         have hl167 := ho164.lt
         refine pl_nil ?_
         refine co_blockN ?_
         refine co_then ?_
         refine co_seq ?_
         refine co_reg ?_
         refine pk0 (v := pt N26 0) h162 rfl fun a168 h168 => ?_; clear h162
         refine pw h168 rfl (op_call (args := #[pt N26 0]) (R := fun res xw => res = .tuple #[.string (⟨((((([] : List UInt8) ++ putL d.k) ++ putL d.pid) ++ putL d.pat) ++ putL d.plf).toArray⟩), .int .i64 0] ∧ Below w163.heap.size w163 xw) rfl rfl rfl (by kernel_rfl) (by kernel_rfl) (Tryz.call37 _ _) (ox_done N26 ((((([] : List UInt8) ++ putL d.k) ++ putL d.pid) ++ putL d.pat) ++ putL d.plf) (0 + 9 + 9 + 9 + 9) w163 ho164) (by rintro e x ⟨rfl, h2⟩; exact ⟨_, rfl, rfl, h2⟩)) ?_; clear h168
         rintro _ w170 a169 ⟨rfl, hb171⟩ h169
         have hz172 := hb171.size
         refine pk0 (v := .string (⟨((((([] : List UInt8) ++ putL d.k) ++ putL d.pid) ++ putL d.pat) ++ putL d.plf).toArray⟩)) h169 rfl fun a173 h173 => ?_; clear h169
         refine pk0 (v := .int .i64 0) h173 rfl fun a174 h174 => ?_; clear h173
         refine pk0 (v := .string (⟨((((([] : List UInt8) ++ putL d.k) ++ putL d.pid) ++ putL d.pat) ++ putL d.plf).toArray⟩)) h174 rfl fun a175 h175 => ?_; clear h174
         refine pk0 (v := .int .i64 0) h175 rfl fun a176 h176 => ?_; clear h175
         refine pl_nil ?_
         refine co_then ?_
         refine wp_ret ?_
         refine co_ret2 h176 rfl rfl rfl ?_
         have hB177 := hb_at hB52 hx143 (by omega)
         have hB178 := hb_at hB177 hx154 (by omega)
         have hB179 := hb_at hB178 hx165 (by omega)
         have hB180 := hb_call hB179 hb171
         have hc0 : chkN d = 0 := by omega
         have hkk : d.k = 6 := by omega
         exact ⟨by rw [putN_ok hc0, hc0]; simp [putNL, txt, hkk], hB180⟩
       ·
        rw [hc72] at h71
        have hp181 : d.k = 7 := by first | simpa using hc72 | simpa [and_assoc] using hc72
        clear hc72
        refine co_true h71 rfl ?_
        refine co_reg ?_
        refine pk0 (v := pt N26 0) h71 rfl fun a182 h182 => ?_; clear h71
        refine pk0 (v := pt N3 1) h182 rfl fun a183 h183 => ?_; clear h182
        refine pk (v := .int .i64 d.n) h183 rfl (rn_load1 rfl rfl Tryz.isAgg3 (hk46.cell rfl)) fun a184 h184 => ?_; clear h183
        refine pw h184 rfl (op_call (args := #[pt N26 0, .int .i64 d.n]) (R := fun res xw => res = .tuple #[] ∧ OX N26 ((([] : List UInt8) ++ putL d.k) ++ putL d.n) (0 + 9 + 9) xw ∧ w39.grownBy xw (some N26)) rfl rfl rfl (by kernel_rfl) (by kernel_rfl) (Tryz.call34 _ _) (ox_num N26 (([] : List UInt8) ++ putL d.k) (0 + 9) d.n w39 ho41 (by omega) (by omega) (by omega)) (by rintro e x ⟨rfl, h1, h2⟩; exact ⟨_, rfl, rfl, h1, h2⟩)) ?_; clear h184
        rintro _ w186 a185 ⟨rfl, ho187, hx188⟩ h185
        have hz189 := hx188.size
        have hl190 := ho187.lt
        refine pl_nil ?_
        refine co_blockN ?_
        refine co_then ?_
        refine co_seq ?_
        refine co_reg ?_
        refine pk0 (v := pt N26 0) h185 rfl fun a191 h191 => ?_; clear h185
        refine pw h191 rfl (op_call (args := #[pt N26 0]) (R := fun res xw => res = .tuple #[.string (⟨((([] : List UInt8) ++ putL d.k) ++ putL d.n).toArray⟩), .int .i64 0] ∧ Below w186.heap.size w186 xw) rfl rfl rfl (by kernel_rfl) (by kernel_rfl) (Tryz.call37 _ _) (ox_done N26 ((([] : List UInt8) ++ putL d.k) ++ putL d.n) (0 + 9 + 9) w186 ho187) (by rintro e x ⟨rfl, h2⟩; exact ⟨_, rfl, rfl, h2⟩)) ?_; clear h191
        rintro _ w193 a192 ⟨rfl, hb194⟩ h192
        have hz195 := hb194.size
        refine pk0 (v := .string (⟨((([] : List UInt8) ++ putL d.k) ++ putL d.n).toArray⟩)) h192 rfl fun a196 h196 => ?_; clear h192
        refine pk0 (v := .int .i64 0) h196 rfl fun a197 h197 => ?_; clear h196
        refine pk0 (v := .string (⟨((([] : List UInt8) ++ putL d.k) ++ putL d.n).toArray⟩)) h197 rfl fun a198 h198 => ?_; clear h197
        refine pk0 (v := .int .i64 0) h198 rfl fun a199 h199 => ?_; clear h198
        refine pl_nil ?_
        refine co_then ?_
        refine wp_ret ?_
        refine co_ret2 h199 rfl rfl rfl ?_
        have hB200 := hb_at hB52 hx188 (by omega)
        have hB201 := hb_call hB200 hb194
        have hc0 : chkN d = 0 := by omega
        have hkk : d.k = 7 := by omega
        exact ⟨by rw [putN_ok hc0, hc0]; simp [putNL, txt, hkk], hB201⟩
      ·
       rw [hc68] at h67
       have hp202 : d.k = 5 := by first | simpa using hc68 | simpa [and_assoc] using hc68
       clear hc68
       refine co_true h67 rfl ?_
       refine wp_skip ?_
       refine co_then ?_
       refine co_true h67 rfl ?_
       refine co_reg ?_
       refine pk0 (v := pt N26 0) h67 rfl fun a203 h203 => ?_; clear h67
       refine pk0 (v := pt N3 1) h203 rfl fun a204 h204 => ?_; clear h203
       refine pk (v := .int .i64 d.n) h204 rfl (rn_load1 rfl rfl Tryz.isAgg3 (hk46.cell rfl)) fun a205 h205 => ?_; clear h204
       refine pw h205 rfl (op_call (args := #[pt N26 0, .int .i64 d.n]) (R := fun res xw => res = .tuple #[] ∧ OX N26 ((([] : List UInt8) ++ putL d.k) ++ putL d.n) (0 + 9 + 9) xw ∧ w39.grownBy xw (some N26)) rfl rfl rfl (by kernel_rfl) (by kernel_rfl) (Tryz.call34 _ _) (ox_num N26 (([] : List UInt8) ++ putL d.k) (0 + 9) d.n w39 ho41 (by omega) (by omega) (by omega)) (by rintro e x ⟨rfl, h1, h2⟩; exact ⟨_, rfl, rfl, h1, h2⟩)) ?_; clear h205
       rintro _ w207 a206 ⟨rfl, ho208, hx209⟩ h206
       have hz210 := hx209.size
       have hl211 := ho208.lt
       refine pl_nil ?_
       refine co_blockN ?_
       refine co_then ?_
       refine co_seq ?_
       refine co_reg ?_
       refine pk0 (v := pt N26 0) h206 rfl fun a212 h212 => ?_; clear h206
       refine pw h212 rfl (op_call (args := #[pt N26 0]) (R := fun res xw => res = .tuple #[.string (⟨((([] : List UInt8) ++ putL d.k) ++ putL d.n).toArray⟩), .int .i64 0] ∧ Below w207.heap.size w207 xw) rfl rfl rfl (by kernel_rfl) (by kernel_rfl) (Tryz.call37 _ _) (ox_done N26 ((([] : List UInt8) ++ putL d.k) ++ putL d.n) (0 + 9 + 9) w207 ho208) (by rintro e x ⟨rfl, h2⟩; exact ⟨_, rfl, rfl, h2⟩)) ?_; clear h212
       rintro _ w214 a213 ⟨rfl, hb215⟩ h213
       have hz216 := hb215.size
       refine pk0 (v := .string (⟨((([] : List UInt8) ++ putL d.k) ++ putL d.n).toArray⟩)) h213 rfl fun a217 h217 => ?_; clear h213
       refine pk0 (v := .int .i64 0) h217 rfl fun a218 h218 => ?_; clear h217
       refine pk0 (v := .string (⟨((([] : List UInt8) ++ putL d.k) ++ putL d.n).toArray⟩)) h218 rfl fun a219 h219 => ?_; clear h218
       refine pk0 (v := .int .i64 0) h219 rfl fun a220 h220 => ?_; clear h219
       refine pl_nil ?_
       refine co_then ?_
       refine wp_ret ?_
       refine co_ret2 h220 rfl rfl rfl ?_
       have hB221 := hb_at hB52 hx209 (by omega)
       have hB222 := hb_call hB221 hb215
       have hc0 : chkN d = 0 := by omega
       have hkk : d.k = 5 := by omega
       exact ⟨by rw [putN_ok hc0, hc0]; simp [putNL, txt, hkk], hB222⟩
     ·
      rw [hc64] at h63
      have hp223 : d.k = 4 := by first | simpa using hc64 | simpa [and_assoc] using hc64
      clear hc64
      refine co_true h63 rfl ?_
      refine co_seq ?_
      refine co_reg ?_
      refine pk0 (v := pt N26 0) h63 rfl fun a224 h224 => ?_; clear h63
      refine pk0 (v := pt N3 2) h224 rfl fun a225 h225 => ?_; clear h224
      refine pk (v := .int .u64 d.t) h225 rfl (rn_load1 rfl rfl Tryz.isAgg22 (hk46.cell rfl)) fun a226 h226 => ?_; clear h225
      refine pw h226 rfl (op_call (args := #[pt N26 0, .int .u64 d.t]) (R := fun res xw => res = .tuple #[] ∧ OX N26 ((([] : List UInt8) ++ putL d.k) ++ putL d.t) (0 + 9 + 9) xw ∧ w39.grownBy xw (some N26)) rfl rfl rfl (by kernel_rfl) (by kernel_rfl) (Tryz.call73 _ _) (ox_big N26 (([] : List UInt8) ++ putL d.k) (0 + 9) d.t w39 ho41 (by omega) (by omega) (by omega)) (by rintro e x ⟨rfl, h1, h2⟩; exact ⟨_, rfl, rfl, h1, h2⟩)) ?_; clear h226
      rintro _ w228 a227 ⟨rfl, ho229, hx230⟩ h227
      have hz231 := hx230.size
      have hl232 := ho229.lt
      refine pl_nil ?_
      refine co_then ?_
      refine co_reg ?_
      refine pk0 (v := pt N26 0) h227 rfl fun a233 h233 => ?_; clear h227
      refine pk0 (v := pt N3 1) h233 rfl fun a234 h234 => ?_; clear h233
      have hk235 := hk46.kept hx230 (by simp; omega)
      refine pk (v := .int .i64 d.n) h234 rfl (rn_load1 rfl rfl Tryz.isAgg3 (hk235.cell rfl)) fun a236 h236 => ?_; clear h234
      refine pw h236 rfl (op_call (args := #[pt N26 0, .int .i64 d.n]) (R := fun res xw => res = .tuple #[] ∧ OX N26 (((([] : List UInt8) ++ putL d.k) ++ putL d.t) ++ putL d.n) (0 + 9 + 9 + 9) xw ∧ w228.grownBy xw (some N26)) rfl rfl rfl (by kernel_rfl) (by kernel_rfl) (Tryz.call34 _ _) (ox_num N26 ((([] : List UInt8) ++ putL d.k) ++ putL d.t) (0 + 9 + 9) d.n w228 ho229 (by omega) (by omega) (by omega)) (by rintro e x ⟨rfl, h1, h2⟩; exact ⟨_, rfl, rfl, h1, h2⟩)) ?_; clear h236
      rintro _ w238 a237 ⟨rfl, ho239, hx240⟩ h237
      have hz241 := hx240.size
      have hl242 := ho239.lt
      refine pl_nil ?_
      refine co_blockN ?_
      refine co_then ?_
      refine co_seq ?_
      refine co_reg ?_
      refine pk0 (v := pt N26 0) h237 rfl fun a243 h243 => ?_; clear h237
      refine pw h243 rfl (op_call (args := #[pt N26 0]) (R := fun res xw => res = .tuple #[.string (⟨(((([] : List UInt8) ++ putL d.k) ++ putL d.t) ++ putL d.n).toArray⟩), .int .i64 0] ∧ Below w238.heap.size w238 xw) rfl rfl rfl (by kernel_rfl) (by kernel_rfl) (Tryz.call37 _ _) (ox_done N26 (((([] : List UInt8) ++ putL d.k) ++ putL d.t) ++ putL d.n) (0 + 9 + 9 + 9) w238 ho239) (by rintro e x ⟨rfl, h2⟩; exact ⟨_, rfl, rfl, h2⟩)) ?_; clear h243
      rintro _ w245 a244 ⟨rfl, hb246⟩ h244
      have hz247 := hb246.size
      refine pk0 (v := .string (⟨(((([] : List UInt8) ++ putL d.k) ++ putL d.t) ++ putL d.n).toArray⟩)) h244 rfl fun a248 h248 => ?_; clear h244
      refine pk0 (v := .int .i64 0) h248 rfl fun a249 h249 => ?_; clear h248
      refine pk0 (v := .string (⟨(((([] : List UInt8) ++ putL d.k) ++ putL d.t) ++ putL d.n).toArray⟩)) h249 rfl fun a250 h250 => ?_; clear h249
      refine pk0 (v := .int .i64 0) h250 rfl fun a251 h251 => ?_; clear h250
      refine pl_nil ?_
      refine co_then ?_
      refine wp_ret ?_
      refine co_ret2 h251 rfl rfl rfl ?_
      have hB252 := hb_at hB52 hx230 (by omega)
      have hB253 := hb_at hB252 hx240 (by omega)
      have hB254 := hb_call hB253 hb246
      have hc0 : chkN d = 0 := by omega
      have hkk : d.k = 4 := by omega
      exact ⟨by rw [putN_ok hc0, hc0]; simp [putNL, txt, hkk], hB254⟩
    ·
     rw [hc60] at h59
     have hp255 : d.k = 3 := by first | simpa using hc60 | simpa [and_assoc] using hc60
     clear hc60
     refine co_true h59 rfl ?_
     refine co_seq ?_
     refine co_reg ?_
     refine pk0 (v := pt N26 0) h59 rfl fun a256 h256 => ?_; clear h59
     refine pk0 (v := pt N3 1) h256 rfl fun a257 h257 => ?_; clear h256
     refine pk (v := .int .i64 d.n) h257 rfl (rn_load1 rfl rfl Tryz.isAgg3 (hk46.cell rfl)) fun a258 h258 => ?_; clear h257
     refine pw h258 rfl (op_call (args := #[pt N26 0, .int .i64 d.n]) (R := fun res xw => res = .tuple #[] ∧ OX N26 ((([] : List UInt8) ++ putL d.k) ++ putL d.n) (0 + 9 + 9) xw ∧ w39.grownBy xw (some N26)) rfl rfl rfl (by kernel_rfl) (by kernel_rfl) (Tryz.call34 _ _) (ox_num N26 (([] : List UInt8) ++ putL d.k) (0 + 9) d.n w39 ho41 (by omega) (by omega) (by omega)) (by rintro e x ⟨rfl, h1, h2⟩; exact ⟨_, rfl, rfl, h1, h2⟩)) ?_; clear h258
     rintro _ w260 a259 ⟨rfl, ho261, hx262⟩ h259
     have hz263 := hx262.size
     have hl264 := ho261.lt
     refine pl_nil ?_
     refine co_then ?_
     refine co_reg ?_
     refine pk0 (v := pt N26 0) h259 rfl fun a265 h265 => ?_; clear h259
     refine pk0 (v := pt N3 2) h265 rfl fun a266 h266 => ?_; clear h265
     have hk267 := hk46.kept hx262 (by simp; omega)
     refine pk (v := .int .u64 d.t) h266 rfl (rn_load1 rfl rfl Tryz.isAgg22 (hk267.cell rfl)) fun a268 h268 => ?_; clear h266
     refine pw h268 rfl (op_call (args := #[pt N26 0, .int .u64 d.t]) (R := fun res xw => res = .tuple #[] ∧ OX N26 (((([] : List UInt8) ++ putL d.k) ++ putL d.n) ++ putL d.t) (0 + 9 + 9 + 9) xw ∧ w260.grownBy xw (some N26)) rfl rfl rfl (by kernel_rfl) (by kernel_rfl) (Tryz.call73 _ _) (ox_big N26 ((([] : List UInt8) ++ putL d.k) ++ putL d.n) (0 + 9 + 9) d.t w260 ho261 (by omega) (by omega) (by omega)) (by rintro e x ⟨rfl, h1, h2⟩; exact ⟨_, rfl, rfl, h1, h2⟩)) ?_; clear h268
     rintro _ w270 a269 ⟨rfl, ho271, hx272⟩ h269
     have hz273 := hx272.size
     have hl274 := ho271.lt
     refine pl_nil ?_
     refine co_blockN ?_
     refine co_then ?_
     refine co_seq ?_
     refine co_reg ?_
     refine pk0 (v := pt N26 0) h269 rfl fun a275 h275 => ?_; clear h269
     refine pw h275 rfl (op_call (args := #[pt N26 0]) (R := fun res xw => res = .tuple #[.string (⟨(((([] : List UInt8) ++ putL d.k) ++ putL d.n) ++ putL d.t).toArray⟩), .int .i64 0] ∧ Below w270.heap.size w270 xw) rfl rfl rfl (by kernel_rfl) (by kernel_rfl) (Tryz.call37 _ _) (ox_done N26 (((([] : List UInt8) ++ putL d.k) ++ putL d.n) ++ putL d.t) (0 + 9 + 9 + 9) w270 ho271) (by rintro e x ⟨rfl, h2⟩; exact ⟨_, rfl, rfl, h2⟩)) ?_; clear h275
     rintro _ w277 a276 ⟨rfl, hb278⟩ h276
     have hz279 := hb278.size
     refine pk0 (v := .string (⟨(((([] : List UInt8) ++ putL d.k) ++ putL d.n) ++ putL d.t).toArray⟩)) h276 rfl fun a280 h280 => ?_; clear h276
     refine pk0 (v := .int .i64 0) h280 rfl fun a281 h281 => ?_; clear h280
     refine pk0 (v := .string (⟨(((([] : List UInt8) ++ putL d.k) ++ putL d.n) ++ putL d.t).toArray⟩)) h281 rfl fun a282 h282 => ?_; clear h281
     refine pk0 (v := .int .i64 0) h282 rfl fun a283 h283 => ?_; clear h282
     refine pl_nil ?_
     refine co_then ?_
     refine wp_ret ?_
     refine co_ret2 h283 rfl rfl rfl ?_
     have hB284 := hb_at hB52 hx262 (by omega)
     have hB285 := hb_at hB284 hx272 (by omega)
     have hB286 := hb_call hB285 hb278
     have hc0 : chkN d = 0 := by omega
     have hkk : d.k = 3 := by omega
     exact ⟨by rw [putN_ok hc0, hc0]; simp [putNL, txt, hkk], hB286⟩
   ·
    rw [hc56] at h55
    have hp287 : d.k = 2 := by first | simpa using hc56 | simpa [and_assoc] using hc56
    clear hc56
    refine co_true h55 rfl ?_
    refine co_seq ?_
    refine co_reg ?_
    refine pk0 (v := pt N26 0) h55 rfl fun a288 h288 => ?_; clear h55
    refine pk0 (v := pt N3 1) h288 rfl fun a289 h289 => ?_; clear h288
    refine pk (v := .int .i64 d.n) h289 rfl (rn_load1 rfl rfl Tryz.isAgg3 (hk46.cell rfl)) fun a290 h290 => ?_; clear h289
    refine pw h290 rfl (op_call (args := #[pt N26 0, .int .i64 d.n]) (R := fun res xw => res = .tuple #[] ∧ OX N26 ((([] : List UInt8) ++ putL d.k) ++ putL d.n) (0 + 9 + 9) xw ∧ w39.grownBy xw (some N26)) rfl rfl rfl (by kernel_rfl) (by kernel_rfl) (Tryz.call34 _ _) (ox_num N26 (([] : List UInt8) ++ putL d.k) (0 + 9) d.n w39 ho41 (by omega) (by omega) (by omega)) (by rintro e x ⟨rfl, h1, h2⟩; exact ⟨_, rfl, rfl, h1, h2⟩)) ?_; clear h290
    rintro _ w292 a291 ⟨rfl, ho293, hx294⟩ h291
    have hz295 := hx294.size
    have hl296 := ho293.lt
    refine pl_nil ?_
    refine co_then ?_
    refine co_seq ?_
    refine co_reg ?_
    refine pk0 (v := pt N3 7) h291 rfl fun a297 h297 => ?_; clear h291
    have hk298 := hk46.kept hx294 (by simp; omega)
    refine pk (v := .agg #[.int .i64 d.ec, .int .i64 d.er, ev, .int .u64 d.ets]) h297 rfl (rn_loadN rfl rfl Tryz.underlying52 rfl (by kernel_rfl) (blk_part hk298 7 (by rfl))) fun a299 h299 => ?_; clear h297
    have hB302 := hb_at hB52 hx294 (by omega)
    refine pw h299 rfl (op_call (args := #[.agg #[.int .i64 d.ec, .int .i64 d.er, ev, .int .u64 d.ets]]) (R := fun res xw => res = .tuple #[.string (putE d.ec d.er d.el d.ets), .int .i64 (chkB d.ec d.er d.el)] ∧ Below w292.heap.size w292 xw) rfl rfl rfl (by kernel_rfl) (by kernel_rfl) (Tryz.call72 _ _) (ritemPut_any d.ec d.er ev d.el d.ets w292 (he.below hB302) (by omega)) (by rintro e x ⟨rfl, hb303⟩; exact ⟨_, rfl, ⟨rfl, hb303⟩⟩)) ?_; clear h299
    rintro _ w301 a300 ⟨rfl, hb303⟩ h300
    have hz304 := hb303.size
    refine pk0 (v := .tuple #[.string (putE d.ec d.er d.el d.ets), .int .i64 (chkB d.ec d.er d.el)]) h300 rfl fun a305 h305 => ?_; clear h300
    refine pk0 (v := .string (putE d.ec d.er d.el d.ets)) h305 rfl fun a306 h306 => ?_; clear h305
    refine pk0 (v := .int .i64 (chkB d.ec d.er d.el)) h306 rfl fun a307 h307 => ?_; clear h306
    refine pk0 (v := .string (putE d.ec d.er d.el d.ets)) h307 rfl fun a308 h308 => ?_; clear h307
    refine pk0 (v := .int .i64 (chkB d.ec d.er d.el)) h308 rfl fun a309 h309 => ?_; clear h308
    refine pl_nil ?_
    refine co_then ?_
    refine co_reg ?_
    refine pk0 (v := pt N26 0) h309 rfl fun a310 h310 => ?_; clear h309
    refine pk0 (v := .string (putE d.ec d.er d.el d.ets)) h310 rfl fun a311 h311 => ?_; clear h310
    have ho316 := ho293.below hb303
    refine pw h311 rfl (op_call (args := #[pt N26 0, .string (putE d.ec d.er d.el d.ets)]) (R := fun res xw => res = .tuple #[] ∧ OX N26 (((([] : List UInt8) ++ putL d.k) ++ putL d.n) ++ (putL ((putE d.ec d.er d.el d.ets : ByteArray).size : Int) ++ (putE d.ec d.er d.el d.ets : ByteArray).data.toList)) (0 + 9 + 9 + (9 + (putE d.ec d.er d.el d.ets : ByteArray).size)) xw ∧ w301.grownBy xw (some N26)) rfl rfl rfl (by kernel_rfl) (by kernel_rfl) (Tryz.call71 _ _) (ox_text N26 ((([] : List UInt8) ++ putL d.k) ++ putL d.n) (0 + 9 + 9) (putE d.ec d.er d.el d.ets) w301 ho316 (by first | omega | (simp; done) | (simp; omega))) (by rintro e x ⟨rfl, h1, h2⟩; exact ⟨_, rfl, rfl, h1, h2⟩)) ?_; clear h311
    rintro _ w313 a312 ⟨rfl, ho314, hx315⟩ h312
    have hz317 := hx315.size
    have hl318 := ho314.lt
    refine pl_nil ?_
    refine co_blockN ?_
    refine co_then ?_
    refine co_seq ?_
    refine co_reg ?_
    refine pk0 (v := pt N26 0) h312 rfl fun a319 h319 => ?_; clear h312
    refine pw h319 rfl (op_call (args := #[pt N26 0]) (R := fun res xw => res = .tuple #[.string (⟨(((([] : List UInt8) ++ putL d.k) ++ putL d.n) ++ (putL ((putE d.ec d.er d.el d.ets : ByteArray).size : Int) ++ (putE d.ec d.er d.el d.ets : ByteArray).data.toList)).toArray⟩), .int .i64 0] ∧ Below w313.heap.size w313 xw) rfl rfl rfl (by kernel_rfl) (by kernel_rfl) (Tryz.call37 _ _) (ox_done N26 (((([] : List UInt8) ++ putL d.k) ++ putL d.n) ++ (putL ((putE d.ec d.er d.el d.ets : ByteArray).size : Int) ++ (putE d.ec d.er d.el d.ets : ByteArray).data.toList)) (0 + 9 + 9 + (9 + (putE d.ec d.er d.el d.ets : ByteArray).size)) w313 ho314) (by rintro e x ⟨rfl, h2⟩; exact ⟨_, rfl, rfl, h2⟩)) ?_; clear h319
    rintro _ w321 a320 ⟨rfl, hb322⟩ h320
    have hz323 := hb322.size
    refine pk0 (v := .string (⟨(((([] : List UInt8) ++ putL d.k) ++ putL d.n) ++ (putL ((putE d.ec d.er d.el d.ets : ByteArray).size : Int) ++ (putE d.ec d.er d.el d.ets : ByteArray).data.toList)).toArray⟩)) h320 rfl fun a324 h324 => ?_; clear h320
    refine pk0 (v := .int .i64 0) h324 rfl fun a325 h325 => ?_; clear h324
    refine pk0 (v := .string (⟨(((([] : List UInt8) ++ putL d.k) ++ putL d.n) ++ (putL ((putE d.ec d.er d.el d.ets : ByteArray).size : Int) ++ (putE d.ec d.er d.el d.ets : ByteArray).data.toList)).toArray⟩)) h325 rfl fun a326 h326 => ?_; clear h325
    refine pk0 (v := .int .i64 0) h326 rfl fun a327 h327 => ?_; clear h326
    refine pl_nil ?_
    refine co_then ?_
    refine wp_ret ?_
    refine co_ret2 h327 rfl rfl rfl ?_
    have hB328 := hb_call hB302 hb303
    have hB329 := hb_at hB328 hx315 (by omega)
    have hB330 := hb_call hB329 hb322
    have hc0 : chkN d = 0 := by omega
    have hkk : d.k = 2 := by omega
    exact ⟨by rw [putN_ok hc0, hc0]; simp [putNL, txt, hkk], hB330⟩
  ·
   rw [hc50] at h49
   have hp331 : d.k = 1 := by first | simpa using hc50 | simpa [and_assoc] using hc50
   clear hc50
   refine co_true h49 rfl ?_
   refine co_seq ?_
   refine co_reg ?_
   refine pk0 (v := pt N3 3) h49 rfl fun a332 h332 => ?_; clear h49
   refine pk (v := .agg #[.int .i64 d.ep, mv, .int .u64 d.fl]) h332 rfl (rn_loadN rfl rfl Tryz.underlying26 rfl (by kernel_rfl) (blk_part hk46 3 (by rfl))) fun a333 h333 => ?_; clear h332
   refine pw h333 rfl (op_call (args := #[.agg #[.int .i64 d.ep, mv, .int .u64 d.fl]]) (R := fun res xw => res = .tuple #[.string (putCf d.ep d.ms d.fl), .int .i64 (chkC d.ep d.ms)] ∧ Below w39.heap.size w39 xw) rfl rfl rfl (by kernel_rfl) (by kernel_rfl) (Tryz.call70 _ _) (crPut_any d.ep mv d.ms d.fl w39 (hm.below hB52) hR.mem (by omega) (by omega)) (by rintro e x ⟨rfl, hb336⟩; exact ⟨_, rfl, ⟨rfl, hb336⟩⟩)) ?_; clear h333
   rintro _ w335 a334 ⟨rfl, hb336⟩ h334
   have hz337 := hb336.size
   refine pk0 (v := .tuple #[.string (putCf d.ep d.ms d.fl), .int .i64 (chkC d.ep d.ms)]) h334 rfl fun a338 h338 => ?_; clear h334
   refine pk0 (v := .string (putCf d.ep d.ms d.fl)) h338 rfl fun a339 h339 => ?_; clear h338
   refine pk0 (v := .int .i64 (chkC d.ep d.ms)) h339 rfl fun a340 h340 => ?_; clear h339
   refine pk0 (v := .string (putCf d.ep d.ms d.fl)) h340 rfl fun a341 h341 => ?_; clear h340
   refine pk0 (v := .int .i64 (chkC d.ep d.ms)) h341 rfl fun a342 h342 => ?_; clear h341
   refine pl_nil ?_
   refine co_then ?_
   refine co_seq ?_
   refine co_reg ?_
   refine pk0 (v := pt N26 0) h342 rfl fun a343 h343 => ?_; clear h342
   refine pk0 (v := .string (putCf d.ep d.ms d.fl)) h343 rfl fun a344 h344 => ?_; clear h343
   have ho349 := ho41.below hb336
   refine pw h344 rfl (op_call (args := #[pt N26 0, .string (putCf d.ep d.ms d.fl)]) (R := fun res xw => res = .tuple #[] ∧ OX N26 ((([] : List UInt8) ++ putL d.k) ++ (putL ((putCf d.ep d.ms d.fl : ByteArray).size : Int) ++ (putCf d.ep d.ms d.fl : ByteArray).data.toList)) (0 + 9 + (9 + (putCf d.ep d.ms d.fl : ByteArray).size)) xw ∧ w335.grownBy xw (some N26)) rfl rfl rfl (by kernel_rfl) (by kernel_rfl) (Tryz.call71 _ _) (ox_text N26 (([] : List UInt8) ++ putL d.k) (0 + 9) (putCf d.ep d.ms d.fl) w335 ho349 (by first | omega | (simp; done) | (simp; omega))) (by rintro e x ⟨rfl, h1, h2⟩; exact ⟨_, rfl, rfl, h1, h2⟩)) ?_; clear h344
   rintro _ w346 a345 ⟨rfl, ho347, hx348⟩ h345
   have hz350 := hx348.size
   have hl351 := ho347.lt
   refine pl_nil ?_
   refine co_then ?_
   refine co_seq ?_
   refine co_reg ?_
   refine pk0 (v := pt N26 0) h345 rfl fun a352 h352 => ?_; clear h345
   refine pk0 (v := pt N3 6) h352 rfl fun a353 h353 => ?_; clear h352
   have hk354 := hk46.below hb336
   have hk355 := hk354.kept hx348 (by simp; omega)
   refine pk (v := lv) h353 rfl (rn_load1 rfl rfl Tryz.isAgg50 (hk355.cell rfl)) fun a356 h356 => ?_; clear h353
   have hB357 := hb_call hB52 hb336
   have hB358 := hb_at hB357 hx348 (by omega)
   refine pk (v := .int .i64 ((d.lg.length : Nat) : Int)) h356 rfl (rn_len rfl rfl Tryz.underlying50 (hg.below hB358)) fun a359 h359 => ?_; clear h356
   refine pw h359 rfl (op_call (args := #[pt N26 0, .int .i64 ((d.lg.length : Nat) : Int)]) (R := fun res xw => res = .tuple #[] ∧ OX N26 (((([] : List UInt8) ++ putL d.k) ++ (putL ((putCf d.ep d.ms d.fl : ByteArray).size : Int) ++ (putCf d.ep d.ms d.fl : ByteArray).data.toList)) ++ putL ((d.lg.length : Nat) : Int)) (0 + 9 + (9 + (putCf d.ep d.ms d.fl : ByteArray).size) + 9) xw ∧ w346.grownBy xw (some N26)) rfl rfl rfl (by kernel_rfl) (by kernel_rfl) (Tryz.call34 _ _) (ox_num N26 ((([] : List UInt8) ++ putL d.k) ++ (putL ((putCf d.ep d.ms d.fl : ByteArray).size : Int) ++ (putCf d.ep d.ms d.fl : ByteArray).data.toList)) (0 + 9 + (9 + (putCf d.ep d.ms d.fl : ByteArray).size)) ((d.lg.length : Nat) : Int) w346 ho347 (by omega) (by omega) (by omega)) (by rintro e x ⟨rfl, h1, h2⟩; exact ⟨_, rfl, rfl, h1, h2⟩)) ?_; clear h359
   rintro _ w361 a360 ⟨rfl, ho362, hx363⟩ h360
   have hz364 := hx363.size
   have hl365 := ho362.lt
   refine pl_nil ?_
   refine co_then ?_
   refine co_seq ?_
   refine co_reg ?_
   refine pk0 (v := .int .i64 0) h360 rfl fun a366 h366 => ?_; clear h360
   refine pl_nil ?_
   refine co_then ?_
   refine wp_block ?_
   have hlgo := chkLg_ok (l := d.lg) (by omega)
   have hlg2 := hlgo.2
   have h367 : Slots 137 [(1, pt N3 0), (2, .string (⟨#[]⟩)), (3, .int .i64 0), (5, pt N26 0), (8, .int .i64 0)] _ := h366.sub ⟨rfl, rfl, rfl, rfl, rfl, trivial⟩; clear h366
   refine co_loop (fun mm a x => ∃ (i : Nat), Slots 137 [(1, pt N3 0), (2, .string (⟨#[]⟩)), (3, .int .i64 0), (5, pt N26 0), (8, .int .i64 ((i : Nat) : Int))] a ∧ mm = d.lg.length - i ∧ (i ≤ d.lg.length) ∧ OX N26 ((((([] : List UInt8) ++ putL d.k) ++ (putL ((putCf d.ep d.ms d.fl : ByteArray).size : Int) ++ (putCf d.ep d.ms d.fl : ByteArray).data.toList)) ++ putL ((d.lg.length : Nat) : Int)) ++ (d.lg.take i).flatMap putL) ((0 + 9 + (9 + (putCf d.ep d.ms d.fl : ByteArray).size) + 9) + 9 * i) x ∧ Below w.heap.size w x ∧ Blk x N3 58 #[.int .i64 d.k, .int .i64 d.n, .int .u64 d.t, .int .i64 d.ep, mv, .int .u64 d.fl, lv, .int .i64 d.ec, .int .i64 d.er, ev, .int .u64 d.ets, .int .i64 d.pid, .int .u64 d.pat, .int .i64 d.plf, .int .i64 d.sc, .int .i64 d.sr, .int .i64 d.se, .int .i64 d.sp]) (d.lg.length - 0) ?_ ?_
   have hB368 := hb_at hB358 hx363 (by omega)
   have hk369 := hk355.kept hx363 (by simp; omega)
   · exact ⟨0, h367.sub ⟨rfl, rfl, rfl, rfl, (slot_eq rfl (congrArg (Value.int .i64) (by first | rfl | omega))), trivial⟩, rfl, by omega, (ho362.eq (by first | (simp; done) | (rw [takeI (by assumption)]; simp)) (by first | omega | (simp; done) | (simp; omega))), hB368, hk369⟩
   · rintro k370 a371 w372 ⟨i, h371, rfl, hi373, hf374, hB375, hk376⟩
     have hz377 := hB375.size
     have hl378 := hk376.lt
     have hl379 := hf374.lt
     refine co_seq ?_
     refine co_seq ?_
     refine co_reg ?_
     refine pk0 (v := .int .i64 ((i : Nat) : Int)) h371 rfl fun a380 h380 => ?_; clear h371
     refine pk0 (v := pt N3 6) h380 rfl fun a381 h381 => ?_; clear h380
     refine pk (v := lv) h381 rfl (rn_load1 rfl rfl Tryz.isAgg50 (hk376.cell rfl)) fun a382 h382 => ?_; clear h381
     refine pk (v := .int .i64 ((d.lg.length : Nat) : Int)) h382 rfl (rn_len rfl rfl Tryz.underlying50 (hg.below hB375)) fun a383 h383 => ?_; clear h382
     refine pk0 (v := .bool (decide (((i : Nat) : Int) < ((d.lg.length : Nat) : Int)))) h383 rfl fun a384 h384 => ?_; clear h383
     refine pl_nil ?_
     refine co_then ?_
     cases hc385 : (decide (((i : Nat) : Int) < ((d.lg.length : Nat) : Int)))
     ·
      rw [hc385] at h384
      have hp386 : ¬ (((i : Nat) : Int) < ((d.lg.length : Nat) : Int)) := of_decide_eq_false hc385
      clear hc385
      refine co_false h384 rfl ?_
      refine wp_exit ?_
      refine co_thenX ?_
      refine co_thenX ?_
      refine co_blockX ?_
      refine co_blockN ?_
      refine co_then ?_
      refine co_seq ?_
      refine co_reg ?_
      refine pk0 (v := pt N26 0) h384 rfl fun a387 h387 => ?_; clear h384
      refine pw h387 rfl (op_call (args := #[pt N26 0]) (R := fun res xw => res = .tuple #[.string (⟨((((([] : List UInt8) ++ putL d.k) ++ (putL ((putCf d.ep d.ms d.fl : ByteArray).size : Int) ++ (putCf d.ep d.ms d.fl : ByteArray).data.toList)) ++ putL ((d.lg.length : Nat) : Int)) ++ (d.lg.take i).flatMap putL).toArray⟩), .int .i64 0] ∧ Below w372.heap.size w372 xw) rfl rfl rfl (by kernel_rfl) (by kernel_rfl) (Tryz.call37 _ _) (ox_done N26 ((((([] : List UInt8) ++ putL d.k) ++ (putL ((putCf d.ep d.ms d.fl : ByteArray).size : Int) ++ (putCf d.ep d.ms d.fl : ByteArray).data.toList)) ++ putL ((d.lg.length : Nat) : Int)) ++ (d.lg.take i).flatMap putL) ((0 + 9 + (9 + (putCf d.ep d.ms d.fl : ByteArray).size) + 9) + 9 * i) w372 hf374) (by rintro e x ⟨rfl, h2⟩; exact ⟨_, rfl, rfl, h2⟩)) ?_; clear h387
      rintro _ w389 a388 ⟨rfl, hb390⟩ h388
      have hz391 := hb390.size
      refine pk0 (v := .string (⟨((((([] : List UInt8) ++ putL d.k) ++ (putL ((putCf d.ep d.ms d.fl : ByteArray).size : Int) ++ (putCf d.ep d.ms d.fl : ByteArray).data.toList)) ++ putL ((d.lg.length : Nat) : Int)) ++ (d.lg.take i).flatMap putL).toArray⟩)) h388 rfl fun a392 h392 => ?_; clear h388
      refine pk0 (v := .int .i64 0) h392 rfl fun a393 h393 => ?_; clear h392
      refine pk0 (v := .string (⟨((((([] : List UInt8) ++ putL d.k) ++ (putL ((putCf d.ep d.ms d.fl : ByteArray).size : Int) ++ (putCf d.ep d.ms d.fl : ByteArray).data.toList)) ++ putL ((d.lg.length : Nat) : Int)) ++ (d.lg.take i).flatMap putL).toArray⟩)) h393 rfl fun a394 h394 => ?_; clear h393
      refine pk0 (v := .int .i64 0) h394 rfl fun a395 h395 => ?_; clear h394
      refine pl_nil ?_
      refine co_then ?_
      refine wp_ret ?_
      refine co_ret2 h395 rfl rfl rfl ?_
      have hB396 := hb_call hB375 hb390
      have hc0 : chkN d = 0 := by omega
      have hkk : d.k = 1 := by omega
      have hta : d.lg.take i = d.lg := List.take_of_length_le (by omega)
      exact ⟨by rw [putN_ok hc0, hc0]; simp [putNL, txt, hkk, hta], hB396⟩
     ·
      rw [hc385] at h384
      have hp397 : ((i : Nat) : Int) < ((d.lg.length : Nat) : Int) := of_decide_eq_true hc385
      clear hc385
      refine co_true h384 rfl ?_
      refine wp_skip ?_
      refine co_then ?_
      refine co_seq ?_
      refine wp_block ?_
      refine co_reg ?_
      refine pk0 (v := pt N26 0) h384 rfl fun a398 h398 => ?_; clear h384
      refine pk0 (v := pt N3 6) h398 rfl fun a399 h399 => ?_; clear h398
      refine pk (v := lv) h399 rfl (rn_load1 rfl rfl Tryz.isAgg50 (hk376.cell rfl)) fun a400 h400 => ?_; clear h399
      refine pk0 (v := .int .i64 ((i : Nat) : Int)) h400 rfl fun a401 h401 => ?_; clear h400
      obtain ⟨y402, hy402⟩ : ∃ z, d.lg[i]? = some z := ⟨_, List.getElem?_eq_getElem (by first | omega | (simp; done) | (simp; omega))⟩
      have oky402 := hlg2 _ (List.mem_of_getElem? hy402)
      have k403 : 0 ≤ y402 ∧ y402 ≤ 3 := oky402
      refine pk (v := pt (blkOf lv) (offOf lv + i * 1)) h401 rfl (rn_index rfl rfl rfl Tryz.underlying50 Tryz.sizeOf3 (hg.below hB375) (by omega) (by first | omega | (simp; done) | (simp; omega))) fun a404 h404 => ?_; clear h401
      refine pk (v := .int .i64 y402) h404 rfl (rn_load1 rfl rfl Tryz.isAgg3 ((sl_at (hg.below hB375) hy402) 0 _ rfl)) fun a405 h405 => ?_; clear h404
      refine pw h405 rfl (op_call (args := #[pt N26 0, .int .i64 y402]) (R := fun res xw => res = .tuple #[] ∧ OX N26 (((((([] : List UInt8) ++ putL d.k) ++ (putL ((putCf d.ep d.ms d.fl : ByteArray).size : Int) ++ (putCf d.ep d.ms d.fl : ByteArray).data.toList)) ++ putL ((d.lg.length : Nat) : Int)) ++ (d.lg.take i).flatMap putL) ++ putL y402) ((0 + 9 + (9 + (putCf d.ep d.ms d.fl : ByteArray).size) + 9) + 9 * i + 9) xw ∧ w372.grownBy xw (some N26)) rfl rfl rfl (by kernel_rfl) (by kernel_rfl) (Tryz.call34 _ _) (ox_num N26 ((((([] : List UInt8) ++ putL d.k) ++ (putL ((putCf d.ep d.ms d.fl : ByteArray).size : Int) ++ (putCf d.ep d.ms d.fl : ByteArray).data.toList)) ++ putL ((d.lg.length : Nat) : Int)) ++ (d.lg.take i).flatMap putL) ((0 + 9 + (9 + (putCf d.ep d.ms d.fl : ByteArray).size) + 9) + 9 * i) y402 w372 hf374 (by omega) (by omega) (by omega)) (by rintro e x ⟨rfl, h1, h2⟩; exact ⟨_, rfl, rfl, h1, h2⟩)) ?_; clear h405
      rintro _ w407 a406 ⟨rfl, ho408, hx409⟩ h406
      have hz410 := hx409.size
      have hl411 := ho408.lt
      refine pl_nil ?_
      refine co_blockN ?_
      refine co_then ?_
      refine co_reg ?_
      refine pk0 (v := .int .i64 ((i : Nat) : Int)) h406 rfl fun a412 h412 => ?_; clear h406
      refine pk (v := .int .i64 ((i + 1 : Nat) : Int)) h412 rfl (rn_arith' rfl rfl rfl rfl rfl rfl (IntWalk.i64_in _ (by omega)) (by omega)) fun a413 h413 => ?_; clear h412
      refine pk0 (v := .int .i64 ((i + 1 : Nat) : Int)) h413 rfl fun a414 h414 => ?_; clear h413
      refine pl_nil ?_
      refine co_then ?_
      refine ⟨(d.lg.length - (i + 1)), by omega, ?_⟩
      have hB415 := hb_at hB375 hx409 (by omega)
      have hk416 := hk376.kept hx409 (by simp; omega)
      exact ⟨i + 1, h414.sub ⟨rfl, rfl, rfl, rfl, rfl, trivial⟩, rfl, by omega, (ho408.eq (by first | (simp; done) | (rw [takeI (by assumption)]; simp)) (by first | omega | (simp; done) | (simp; omega))), hB415, hk416⟩
 ·
  rw [hc20] at h19
  have hp417 : chkN d ≠ 0 := by first | simpa using hc20 | simpa [and_assoc] using hc20
  clear hc20
  refine co_true h19 rfl ?_
  refine co_seq ?_
  refine co_reg ?_
  refine pk0 (v := .int .i64 (chkN d)) h19 rfl fun a418 h418 => ?_; clear h19
  refine pk0 (v := .string (⟨#[]⟩)) h418 rfl fun a419 h419 => ?_; clear h418
  refine pk0 (v := .int .i64 (chkN d)) h419 rfl fun a420 h420 => ?_; clear h419
  refine pl_nil ?_
  refine co_then ?_
  refine wp_ret ?_
  refine co_thenR ?_
  refine co_ret2 h420 rfl rfl rfl ?_
  exact ⟨by rw [putN_err (by assumption)], hB21⟩
end Go.Proofs.YteioaaegooebpaaGreat

/- catenalaw10: NotePuts. Conditions: none. -/
namespace Go.Proofs.YteioaaegooebpaaGreat
open Go.RowKit Go.PlainAid
set_option linter.unusedVariables false

set_option maxRecDepth 100000 in
theorem nMuch2_any (d : NoteD) (mv : Value) (lv : Value) (ev : Value) (w : World) (hm : SliceOf memE 2 w mv d.ms) (hg : SliceOf (intE .i64) 1 w lv d.lg) (he : SliceOf opE 3 w ev d.el) (hR : NoteR d) :
    Calls Tryz.prog 18 #[.agg #[.int .i64 d.k, .int .i64 d.n, .int .u64 d.t, .int .i64 d.ep, mv, .int .u64 d.fl, lv, .int .i64 d.ec, .int .i64 d.er, ev, .int .u64 d.ets, .int .i64 d.pid, .int .u64 d.pat, .int .i64 d.plf, .int .i64 d.sc, .int .i64 d.sr, .int .i64 d.se, .int .i64 d.sp]] w fun e w' => e = .returned (.bool (decide (d.ms.length > 20 ∨ d.lg.length > 20 ∨ d.el.length > 20))) ∧ Below w.heap.size w w' := by
 have hB0 := Below.refl w.heap.size w
 have hl_hm := sl_len hm
 have hl_hg := sl_len hg
 have hl_he := sl_len he
 refine co_enter (n := 22) Tryz.func18 rfl rfl rfl [(0, .agg #[.int .i64 d.k, .int .i64 d.n, .int .u64 d.t, .int .i64 d.ep, mv, .int .u64 d.fl, lv, .int .i64 d.ec, .int .i64 d.er, ev, .int .u64 d.ets, .int .i64 d.pid, .int .u64 d.pat, .int .i64 d.plf, .int .i64 d.sc, .int .i64 d.sr, .int .i64 d.se, .int .i64 d.sp])] rfl (fun a h0 => ?_)
 refine co_seq ?_
 refine co_reg ?_
 refine pw h0 rfl (op_new (v := fun N => pt N 0) (T := 58) (cs := #[.int .i64 d.k, .int .i64 d.n, .int .u64 d.t, .int .i64 d.ep, mv, .int .u64 d.fl, lv, .int .i64 d.ec, .int .i64 d.er, ev, .int .u64 d.ets, .int .i64 d.pid, .int .u64 d.pat, .int .i64 d.plf, .int .i64 d.sc, .int .i64 d.sr, .int .i64 d.se, .int .i64 d.sp]) (by kernel_rfl) (by kernel_rfl) (by kernel_rfl)) ?_; clear h0
 rintro _ w2 a1 ⟨N3, rfl, hN6, hz7, hk5, hg4⟩ h1
 have hz8 := hg4.size
 try dsimp only at h1
 refine pk0 (v := .bool false) h1 rfl fun a9 h9 => ?_; clear h1
 refine pl_nil ?_
 refine co_then ?_
 refine co_seq ?_
 refine co_reg ?_
 refine pk0 (v := pt N3 3) h9 rfl fun a10 h10 => ?_; clear h9
 refine pk0 (v := pt N3 4) h10 rfl fun a11 h11 => ?_; clear h10
 refine pk (v := mv) h11 rfl (rn_load1 rfl rfl Tryz.isAgg24 (hk5.cell rfl)) fun a12 h12 => ?_; clear h11
 have hB13 := hb_new hB0 hg4
 refine pk (v := .int .i64 ((d.ms.length : Nat) : Int)) h12 rfl (rn_len rfl rfl Tryz.underlying24 (hm.below hB13)) fun a14 h14 => ?_; clear h12
 refine pk0 (v := .bool (decide (((d.ms.length : Nat) : Int) > 20))) h14 rfl fun a15 h15 => ?_; clear h14
 refine pk0 (v := .bool (decide (((d.ms.length : Nat) : Int) > 20))) h15 rfl fun a16 h16 => ?_; clear h15
 cases hc17 : (decide (((d.ms.length : Nat) : Int) > 20))
 ·
  rw [hc17] at h16
  have hp18 : ¬ (((d.ms.length : Nat) : Int) > 20) := of_decide_eq_false hc17
  clear hc17
  refine pk0 (v := pt N3 6) h16 rfl fun a19 h19 => ?_; clear h16
  refine pk (v := lv) h19 rfl (rn_load1 rfl rfl Tryz.isAgg50 (hk5.cell rfl)) fun a20 h20 => ?_; clear h19
  refine pk (v := .int .i64 ((d.lg.length : Nat) : Int)) h20 rfl (rn_len rfl rfl Tryz.underlying50 (hg.below hB13)) fun a21 h21 => ?_; clear h20
  refine pk0 (v := .bool (decide (((d.lg.length : Nat) : Int) > 20))) h21 rfl fun a22 h22 => ?_; clear h21
  refine pk0 (v := .bool (decide (((d.lg.length : Nat) : Int) > 20))) h22 rfl fun a23 h23 => ?_; clear h22
  refine pk0 (v := .bool (decide (((d.lg.length : Nat) : Int) > 20))) h23 rfl fun a24 h24 => ?_; clear h23
  cases hc25 : (decide (((d.lg.length : Nat) : Int) > 20))
  ·
   rw [hc25] at h24
   have hp26 : ¬ (((d.lg.length : Nat) : Int) > 20) := of_decide_eq_false hc25
   clear hc25
   refine pk0 (v := pt N3 7) h24 rfl fun a27 h27 => ?_; clear h24
   refine pk0 (v := pt N3 7) h27 rfl fun a28 h28 => ?_; clear h27
   refine pk0 (v := pt N3 9) h28 rfl fun a29 h29 => ?_; clear h28
   refine pk (v := ev) h29 rfl (rn_load1 rfl rfl Tryz.isAgg27 (hk5.cell rfl)) fun a30 h30 => ?_; clear h29
   refine pk (v := .int .i64 ((d.el.length : Nat) : Int)) h30 rfl (rn_len rfl rfl Tryz.underlying27 (he.below hB13)) fun a31 h31 => ?_; clear h30
   refine pk0 (v := .bool (decide (((d.el.length : Nat) : Int) > 20))) h31 rfl fun a32 h32 => ?_; clear h31
   refine pk0 (v := .bool (decide (((d.el.length : Nat) : Int) > 20))) h32 rfl fun a33 h33 => ?_; clear h32
   refine pk0 (v := .bool (decide (((d.el.length : Nat) : Int) > 20))) h33 rfl fun a34 h34 => ?_; clear h33
   refine pl_nil ?_
   refine co_then ?_
   refine wp_ret ?_
   refine co_ret1 h34 rfl rfl ?_
   exact ⟨ret_bool (by first | exact (decide_eq_true (by omega)).symm | exact (decide_eq_false (by omega)).symm | (rw [Bool.eq_iff_iff]; simp; omega)), hB13⟩
  ·
   rw [hc25] at h24
   have hp35 : ((d.lg.length : Nat) : Int) > 20 := of_decide_eq_true hc25
   clear hc25
   refine psk h24 rfl fun a36 h36 => ?_; clear h24
   refine psk h36 rfl fun a37 h37 => ?_; clear h36
   refine psk h37 rfl fun a38 h38 => ?_; clear h37
   refine psk h38 rfl fun a39 h39 => ?_; clear h38
   refine psk h39 rfl fun a40 h40 => ?_; clear h39
   refine psk h40 rfl fun a41 h41 => ?_; clear h40
   refine pk0 (v := .bool true) h41 rfl fun a42 h42 => ?_; clear h41
   refine pk0 (v := .bool true) h42 rfl fun a43 h43 => ?_; clear h42
   refine pl_nil ?_
   refine co_then ?_
   refine wp_ret ?_
   refine co_ret1 h43 rfl rfl ?_
   exact ⟨ret_bool (by first | exact (decide_eq_true (by omega)).symm | exact (decide_eq_false (by omega)).symm | (rw [Bool.eq_iff_iff]; simp; omega)), hB13⟩
 ·
  rw [hc17] at h16
  have hp44 : ((d.ms.length : Nat) : Int) > 20 := of_decide_eq_true hc17
  clear hc17
  refine psk h16 rfl fun a45 h45 => ?_; clear h16
  refine psk h45 rfl fun a46 h46 => ?_; clear h45
  refine psk h46 rfl fun a47 h47 => ?_; clear h46
  refine psk h47 rfl fun a48 h48 => ?_; clear h47
  refine pk0 (v := .bool true) h48 rfl fun a49 h49 => ?_; clear h48
  refine pk0 (v := .bool true) h49 rfl fun a50 h50 => ?_; clear h49
  refine psk h50 rfl fun a51 h51 => ?_; clear h50
  refine psk h51 rfl fun a52 h52 => ?_; clear h51
  refine psk h52 rfl fun a53 h53 => ?_; clear h52
  refine psk h53 rfl fun a54 h54 => ?_; clear h53
  refine psk h54 rfl fun a55 h55 => ?_; clear h54
  refine psk h55 rfl fun a56 h56 => ?_; clear h55
  refine pk0 (v := .bool true) h56 rfl fun a57 h57 => ?_; clear h56
  refine pk0 (v := .bool true) h57 rfl fun a58 h58 => ?_; clear h57
  refine pl_nil ?_
  refine co_then ?_
  refine wp_ret ?_
  refine co_ret1 h58 rfl rfl ?_
  exact ⟨ret_bool (by first | exact (decide_eq_true (by omega)).symm | exact (decide_eq_false (by omega)).symm | (rw [Bool.eq_iff_iff]; simp; omega)), hB13⟩
set_option maxRecDepth 100000 in
theorem notePuts_law (d : NoteD) (mv : Value) (lv : Value) (ev : Value) (d2 : NoteD) (mv2 : Value) (lv2 : Value) (ev2 : Value) (w : World) (hm : SliceOf memE 2 w mv d.ms) (hg : SliceOf (intE .i64) 1 w lv d.lg) (he : SliceOf opE 3 w ev d.el) (hR : NoteR d) (hm2 : SliceOf memE 2 w mv2 d2.ms) (hg2 : SliceOf (intE .i64) 1 w lv2 d2.lg) (he2 : SliceOf opE 3 w ev2 d2.el) (hR2 : NoteR d2) :
    Calls Tryz.prog 5 #[.agg #[.int .i64 d.k, .int .i64 d.n, .int .u64 d.t, .int .i64 d.ep, mv, .int .u64 d.fl, lv, .int .i64 d.ec, .int .i64 d.er, ev, .int .u64 d.ets, .int .i64 d.pid, .int .u64 d.pat, .int .i64 d.plf, .int .i64 d.sc, .int .i64 d.sr, .int .i64 d.se, .int .i64 d.sp], .agg #[.int .i64 d2.k, .int .i64 d2.n, .int .u64 d2.t, .int .i64 d2.ep, mv2, .int .u64 d2.fl, lv2, .int .i64 d2.ec, .int .i64 d2.er, ev2, .int .u64 d2.ets, .int .i64 d2.pid, .int .u64 d2.pat, .int .i64 d2.plf, .int .i64 d2.sc, .int .i64 d2.sr, .int .i64 d2.se, .int .i64 d2.sp]] w fun e w' => e = .returned (.bool true) ∧ Below w.heap.size w w' := by
 have hB0 := Below.refl w.heap.size w
 have hl_hm := sl_len hm
 have hl_hg := sl_len hg
 have hl_he := sl_len he
 have hl_hm2 := sl_len hm2
 have hl_hg2 := sl_len hg2
 have hl_he2 := sl_len he2
 refine co_enter (n := 65) Tryz.func5 rfl rfl rfl [(0, .agg #[.int .i64 d.k, .int .i64 d.n, .int .u64 d.t, .int .i64 d.ep, mv, .int .u64 d.fl, lv, .int .i64 d.ec, .int .i64 d.er, ev, .int .u64 d.ets, .int .i64 d.pid, .int .u64 d.pat, .int .i64 d.plf, .int .i64 d.sc, .int .i64 d.sr, .int .i64 d.se, .int .i64 d.sp]), (1, .agg #[.int .i64 d2.k, .int .i64 d2.n, .int .u64 d2.t, .int .i64 d2.ep, mv2, .int .u64 d2.fl, lv2, .int .i64 d2.ec, .int .i64 d2.er, ev2, .int .u64 d2.ets, .int .i64 d2.pid, .int .u64 d2.pat, .int .i64 d2.plf, .int .i64 d2.sc, .int .i64 d2.sr, .int .i64 d2.se, .int .i64 d2.sp])] rfl (fun a h0 => ?_)
 refine co_seq ?_
 refine co_reg ?_
 refine pw h0 rfl (op_new (v := fun N => pt N 0) (T := 58) (cs := #[.int .i64 d.k, .int .i64 d.n, .int .u64 d.t, .int .i64 d.ep, mv, .int .u64 d.fl, lv, .int .i64 d.ec, .int .i64 d.er, ev, .int .u64 d.ets, .int .i64 d.pid, .int .u64 d.pat, .int .i64 d.plf, .int .i64 d.sc, .int .i64 d.sr, .int .i64 d.se, .int .i64 d.sp]) (by kernel_rfl) (by kernel_rfl) (by kernel_rfl)) ?_; clear h0
 rintro _ w2 a1 ⟨N3, rfl, hN6, hz7, hk5, hg4⟩ h1
 have hz8 := hg4.size
 try dsimp only at h1
 refine pw h1 rfl (op_new (v := fun N => pt N 0) (T := 58) (cs := #[.int .i64 d2.k, .int .i64 d2.n, .int .u64 d2.t, .int .i64 d2.ep, mv2, .int .u64 d2.fl, lv2, .int .i64 d2.ec, .int .i64 d2.er, ev2, .int .u64 d2.ets, .int .i64 d2.pid, .int .u64 d2.pat, .int .i64 d2.plf, .int .i64 d2.sc, .int .i64 d2.sr, .int .i64 d2.se, .int .i64 d2.sp]) (by kernel_rfl) (by kernel_rfl) (by kernel_rfl)) ?_; clear h1
 rintro _ w10 a9 ⟨N11, rfl, hN14, hz15, hk13, hg12⟩ h9
 have hz16 := hg12.size
 try dsimp only at h9
 refine pk0 (v := .bool false) h9 rfl fun a17 h17 => ?_; clear h9
 refine pl_nil ?_
 refine co_then ?_
 refine co_seq ?_
 refine co_seq ?_
 refine co_reg ?_
 have hk18 := hk5.kept hg12 (by simp)
 refine pk (v := .agg #[.int .i64 d.k, .int .i64 d.n, .int .u64 d.t, .int .i64 d.ep, mv, .int .u64 d.fl, lv, .int .i64 d.ec, .int .i64 d.er, ev, .int .u64 d.ets, .int .i64 d.pid, .int .u64 d.pat, .int .i64 d.plf, .int .i64 d.sc, .int .i64 d.sr, .int .i64 d.se, .int .i64 d.sp]) h17 rfl (rn_loadN rfl rfl Tryz.underlying58 rfl (by kernel_rfl) hk18.all) fun a19 h19 => ?_; clear h17
 have hB22 := hb_new hB0 hg4
 have hB23 := hb_new hB22 hg12
 refine pw h19 rfl (op_call (args := #[.agg #[.int .i64 d.k, .int .i64 d.n, .int .u64 d.t, .int .i64 d.ep, mv, .int .u64 d.fl, lv, .int .i64 d.ec, .int .i64 d.er, ev, .int .u64 d.ets, .int .i64 d.pid, .int .u64 d.pat, .int .i64 d.plf, .int .i64 d.sc, .int .i64 d.sr, .int .i64 d.se, .int .i64 d.sp]]) (R := fun res xw => res = .bool (decide (d.ms.length > 20 ∨ d.lg.length > 20 ∨ d.el.length > 20)) ∧ Below w10.heap.size w10 xw) rfl rfl rfl (by kernel_rfl) (by kernel_rfl) (Tryz.call18 _ _) (nMuch2_any d mv lv ev w10 (hm.below hB23) (hg.below hB23) (he.below hB23) hR) (by rintro e x ⟨rfl, hb24⟩; exact ⟨_, rfl, ⟨rfl, hb24⟩⟩)) ?_; clear h19
 rintro _ w21 a20 ⟨rfl, hb24⟩ h20
 have hz25 := hb24.size
 refine pk0 (v := .bool (decide (d.ms.length > 20 ∨ d.lg.length > 20 ∨ d.el.length > 20))) h20 rfl fun a26 h26 => ?_; clear h20
 have hB28 := hb_call hB23 hb24
 cases hc27 : (decide (d.ms.length > 20 ∨ d.lg.length > 20 ∨ d.el.length > 20))
 ·
  rw [hc27] at h26
  have hp29 : ¬ (d.ms.length > 20 ∨ d.lg.length > 20 ∨ d.el.length > 20) := of_decide_eq_false hc27
  clear hc27
  have hk30 := hk13.below hb24
  refine pk (v := .agg #[.int .i64 d2.k, .int .i64 d2.n, .int .u64 d2.t, .int .i64 d2.ep, mv2, .int .u64 d2.fl, lv2, .int .i64 d2.ec, .int .i64 d2.er, ev2, .int .u64 d2.ets, .int .i64 d2.pid, .int .u64 d2.pat, .int .i64 d2.plf, .int .i64 d2.sc, .int .i64 d2.sr, .int .i64 d2.se, .int .i64 d2.sp]) h26 rfl (rn_loadN rfl rfl Tryz.underlying58 rfl (by kernel_rfl) hk30.all) fun a31 h31 => ?_; clear h26
  refine pw h31 rfl (op_call (args := #[.agg #[.int .i64 d2.k, .int .i64 d2.n, .int .u64 d2.t, .int .i64 d2.ep, mv2, .int .u64 d2.fl, lv2, .int .i64 d2.ec, .int .i64 d2.er, ev2, .int .u64 d2.ets, .int .i64 d2.pid, .int .u64 d2.pat, .int .i64 d2.plf, .int .i64 d2.sc, .int .i64 d2.sr, .int .i64 d2.se, .int .i64 d2.sp]]) (R := fun res xw => res = .bool (decide (d2.ms.length > 20 ∨ d2.lg.length > 20 ∨ d2.el.length > 20)) ∧ Below w21.heap.size w21 xw) rfl rfl rfl (by kernel_rfl) (by kernel_rfl) (Tryz.call18 _ _) (nMuch2_any d2 mv2 lv2 ev2 w21 (hm2.below hB28) (hg2.below hB28) (he2.below hB28) hR2) (by rintro e x ⟨rfl, hb34⟩; exact ⟨_, rfl, ⟨rfl, hb34⟩⟩)) ?_; clear h31
  rintro _ w33 a32 ⟨rfl, hb34⟩ h32
  have hz35 := hb34.size
  refine pk0 (v := .bool (decide (d2.ms.length > 20 ∨ d2.lg.length > 20 ∨ d2.el.length > 20))) h32 rfl fun a36 h36 => ?_; clear h32
  refine pl_nil ?_
  refine co_then ?_
  have hB38 := hb_call hB28 hb34
  have hk39 := hk18.below hb24
  have hk40 := hk39.below hb34
  cases hc37 : (decide (d2.ms.length > 20 ∨ d2.lg.length > 20 ∨ d2.el.length > 20))
  ·
   rw [hc37] at h36
   have hp41 : ¬ (d2.ms.length > 20 ∨ d2.lg.length > 20 ∨ d2.el.length > 20) := of_decide_eq_false hc37
   clear hc37
   refine co_false h36 rfl ?_
   refine wp_skip ?_
   refine co_then ?_
   refine co_seq ?_
   refine co_reg ?_
   refine pk (v := .agg #[.int .i64 d.k, .int .i64 d.n, .int .u64 d.t, .int .i64 d.ep, mv, .int .u64 d.fl, lv, .int .i64 d.ec, .int .i64 d.er, ev, .int .u64 d.ets, .int .i64 d.pid, .int .u64 d.pat, .int .i64 d.plf, .int .i64 d.sc, .int .i64 d.sr, .int .i64 d.se, .int .i64 d.sp]) h36 rfl (rn_loadN rfl rfl Tryz.underlying58 rfl (by kernel_rfl) hk40.all) fun a42 h42 => ?_; clear h36
   refine pw h42 rfl (op_call (args := #[.agg #[.int .i64 d.k, .int .i64 d.n, .int .u64 d.t, .int .i64 d.ep, mv, .int .u64 d.fl, lv, .int .i64 d.ec, .int .i64 d.er, ev, .int .u64 d.ets, .int .i64 d.pid, .int .u64 d.pat, .int .i64 d.plf, .int .i64 d.sc, .int .i64 d.sr, .int .i64 d.se, .int .i64 d.sp]]) (R := fun res xw => res = .tuple #[.string (putN d), .int .i64 (chkN d)] ∧ Below w33.heap.size w33 xw) rfl rfl rfl (by kernel_rfl) (by kernel_rfl) (Tryz.call20 _ _) (nPut_any d mv lv ev w33 (hm.below hB38) (hg.below hB38) (he.below hB38) hR) (by rintro e x ⟨rfl, hb45⟩; exact ⟨_, rfl, ⟨rfl, hb45⟩⟩)) ?_; clear h42
   rintro _ w44 a43 ⟨rfl, hb45⟩ h43
   have hz46 := hb45.size
   refine pk0 (v := .tuple #[.string (putN d), .int .i64 (chkN d)]) h43 rfl fun a47 h47 => ?_; clear h43
   refine pk0 (v := .string (putN d)) h47 rfl fun a48 h48 => ?_; clear h47
   refine pk0 (v := .int .i64 (chkN d)) h48 rfl fun a49 h49 => ?_; clear h48
   refine pk0 (v := .string (putN d)) h49 rfl fun a50 h50 => ?_; clear h49
   refine pk0 (v := .int .i64 (chkN d)) h50 rfl fun a51 h51 => ?_; clear h50
   refine pl_nil ?_
   refine co_then ?_
   refine co_seq ?_
   refine co_reg ?_
   have hk52 := hk40.below hb45
   refine pk (v := .agg #[.int .i64 d.k, .int .i64 d.n, .int .u64 d.t, .int .i64 d.ep, mv, .int .u64 d.fl, lv, .int .i64 d.ec, .int .i64 d.er, ev, .int .u64 d.ets, .int .i64 d.pid, .int .u64 d.pat, .int .i64 d.plf, .int .i64 d.sc, .int .i64 d.sr, .int .i64 d.se, .int .i64 d.sp]) h51 rfl (rn_loadN rfl rfl Tryz.underlying58 rfl (by kernel_rfl) hk52.all) fun a53 h53 => ?_; clear h51
   have hB56 := hb_call hB38 hb45
   refine pw h53 rfl (op_call (args := #[.agg #[.int .i64 d.k, .int .i64 d.n, .int .u64 d.t, .int .i64 d.ep, mv, .int .u64 d.fl, lv, .int .i64 d.ec, .int .i64 d.er, ev, .int .u64 d.ets, .int .i64 d.pid, .int .u64 d.pat, .int .i64 d.plf, .int .i64 d.sc, .int .i64 d.sr, .int .i64 d.se, .int .i64 d.sp]]) (R := fun res xw => res = .tuple #[.string (putN d), .int .i64 (chkN d)] ∧ Below w44.heap.size w44 xw) rfl rfl rfl (by kernel_rfl) (by kernel_rfl) (Tryz.call21 _ _) (rnPut_any d mv lv ev w44 (hm.below hB56) (hg.below hB56) (he.below hB56) hR) (by rintro e x ⟨rfl, hb57⟩; exact ⟨_, rfl, ⟨rfl, hb57⟩⟩)) ?_; clear h53
   rintro _ w55 a54 ⟨rfl, hb57⟩ h54
   have hz58 := hb57.size
   refine pk0 (v := .tuple #[.string (putN d), .int .i64 (chkN d)]) h54 rfl fun a59 h59 => ?_; clear h54
   refine pk0 (v := .string (putN d)) h59 rfl fun a60 h60 => ?_; clear h59
   refine pk0 (v := .int .i64 (chkN d)) h60 rfl fun a61 h61 => ?_; clear h60
   refine pk0 (v := .string (putN d)) h61 rfl fun a62 h62 => ?_; clear h61
   refine pk0 (v := .int .i64 (chkN d)) h62 rfl fun a63 h63 => ?_; clear h62
   refine pl_nil ?_
   refine co_then ?_
   refine co_seq ?_
   refine dr_gen (fun x => Below w.heap.size w x ∧ Blk x N3 58 #[.int .i64 d.k, .int .i64 d.n, .int .u64 d.t, .int .i64 d.ep, mv, .int .u64 d.fl, lv, .int .i64 d.ec, .int .i64 d.er, ev, .int .u64 d.ets, .int .i64 d.pid, .int .u64 d.pat, .int .i64 d.plf, .int .i64 d.sc, .int .i64 d.sr, .int .i64 d.se, .int .i64 d.sp] ∧ Blk x N11 58 #[.int .i64 d2.k, .int .i64 d2.n, .int .u64 d2.t, .int .i64 d2.ep, mv2, .int .u64 d2.fl, lv2, .int .i64 d2.ec, .int .i64 d2.er, ev2, .int .u64 d2.ets, .int .i64 d2.pid, .int .u64 d2.pat, .int .i64 d2.plf, .int .i64 d2.sc, .int .i64 d2.sr, .int .i64 d2.se, .int .i64 d2.sp]) (by kernel_rfl) (fun w64 hg65 => ?_) (fun w64 hg65 => ?_)
   ·
    have hz66 := hg65.size
    have hB67 := hb_call hB56 hb57
    have hB68 := hb_new hB67 hg65
    have hk69 := hk52.below hb57
    have hk70 := hk69.kept hg65 (by simp)
    have hk71 := hk30.below hb34
    have hk72 := hk71.below hb45
    have hk73 := hk72.below hb57
    have hk74 := hk73.kept hg65 (by simp)
    exact ⟨hB68, hk70, hk74⟩
   have hz75 := hg65.size
   have hB76 := hb_call hB56 hb57
   have hB77 := hb_new hB76 hg65
   have hk78 := hk52.below hb57
   have hk79 := hk78.kept hg65 (by simp)
   have hk80 := hk30.below hb34
   have hk81 := hk80.below hb45
   have hk82 := hk81.below hb57
   have hk83 := hk82.kept hg65 (by simp)
   refine dk0 0 (v := .string (putN d)) h63 rfl rfl ⟨hB77, hk79, hk83⟩ fun a84 h84 => ?_; clear h63
   refine dk0 1 (v := .string (putN d)) h84 rfl rfl ⟨hB77, hk79, hk83⟩ fun a85 h85 => ?_; clear h84
   refine dk0 2 (v := .bool ((putN d : ByteArray).toList == (putN d : ByteArray).toList)) h85 rfl rfl ⟨hB77, hk79, hk83⟩ fun a86 h86 => ?_; clear h85
   refine dk0 3 (v := .bool ((putN d : ByteArray).toList == (putN d : ByteArray).toList)) h86 rfl rfl ⟨hB77, hk79, hk83⟩ fun a87 h87 => ?_; clear h86
   have hc88 : ((putN d : ByteArray).toList == (putN d : ByteArray).toList) = true := by first | (simp; done) | (simp; omega)
   rw [hc88] at h87; clear hc88
   refine dk0 4 (v := .int .i64 (chkN d)) h87 rfl rfl ⟨hB77, hk79, hk83⟩ fun a89 h89 => ?_; clear h87
   refine dk0 5 (v := .int .i64 (chkN d)) h89 rfl rfl ⟨hB77, hk79, hk83⟩ fun a90 h90 => ?_; clear h89
   refine dk0 6 (v := .bool (chkN d == chkN d)) h90 rfl rfl ⟨hB77, hk79, hk83⟩ fun a91 h91 => ?_; clear h90
   refine dk0 7 (v := .bool (chkN d == chkN d)) h91 rfl rfl ⟨hB77, hk79, hk83⟩ fun a92 h92 => ?_; clear h91
   refine dk0 8 (v := .bool (chkN d == chkN d)) h92 rfl rfl ⟨hB77, hk79, hk83⟩ fun a93 h93 => ?_; clear h92
   have hc94 : (chkN d == chkN d) = true := by first | (simp; done) | (simp; omega)
   rw [hc94] at h93; clear hc94
   refine dk 9 (v := .agg #[.int .i64 d.k, .int .i64 d.n, .int .u64 d.t, .int .i64 d.ep, mv, .int .u64 d.fl, lv, .int .i64 d.ec, .int .i64 d.er, ev, .int .u64 d.ets, .int .i64 d.pid, .int .u64 d.pat, .int .i64 d.plf, .int .i64 d.sc, .int .i64 d.sr, .int .i64 d.se, .int .i64 d.sp]) h93 rfl rfl ⟨hB77, hk79, hk83⟩ (fun x hx => (rn_loadN rfl rfl Tryz.underlying58 rfl (by kernel_rfl) hx.2.1.all)) fun a95 h95 => ?_; clear h93
   refine dk 11 (v := .agg #[.int .i64 d.k, .int .i64 d.n, .int .u64 d.t, .int .i64 d.ep, mv, .int .u64 d.fl, lv, .int .i64 d.ec, .int .i64 d.er, ev, .int .u64 d.ets, .int .i64 d.pid, .int .u64 d.pat, .int .i64 d.plf, .int .i64 d.sc, .int .i64 d.sr, .int .i64 d.se, .int .i64 d.sp]) h95 rfl rfl ⟨hB77, hk79, hk83⟩ (fun x hx => (rn_loadN rfl rfl Tryz.underlying58 rfl (by kernel_rfl) hx.2.1.all)) fun a96 h96 => ?_; clear h95
   refine d1 10 h96 rfl rfl (op_call (args := #[.agg #[.int .i64 d.k, .int .i64 d.n, .int .u64 d.t, .int .i64 d.ep, mv, .int .u64 d.fl, lv, .int .i64 d.ec, .int .i64 d.er, ev, .int .u64 d.ets, .int .i64 d.pid, .int .u64 d.pat, .int .i64 d.plf, .int .i64 d.sc, .int .i64 d.sr, .int .i64 d.se, .int .i64 d.sp]]) (R := fun res xw => res = .int .i64 (chkN d) ∧ Below w64.heap.size w64 xw) rfl rfl rfl (by kernel_rfl) (by kernel_rfl) (Tryz.call22 _ _) (nCheck_any d mv lv ev w64 (hm.below hB77) (hg.below hB77) (he.below hB77) hR) (by rintro e x ⟨rfl, hb99⟩; exact ⟨_, rfl, ⟨rfl, hb99⟩⟩)) ?_ ?_; clear h96
   ·
    rintro _ w98 ⟨rfl, hb99⟩
    have hz100 := hb99.size
    have hB101 := hb_call hB77 hb99
    have hk102 := hk79.below hb99
    have hk103 := hk83.below hb99
    exact ⟨hB101, hk102, hk103⟩
   rintro _ w98 a97 ⟨rfl, hb99⟩ h97
   have hz100 := hb99.size
   have hB101 := hb_call hB77 hb99
   have hk102 := hk79.below hb99
   have hk103 := hk83.below hb99
   refine d1 12 h97 rfl rfl (op_call (args := #[.agg #[.int .i64 d.k, .int .i64 d.n, .int .u64 d.t, .int .i64 d.ep, mv, .int .u64 d.fl, lv, .int .i64 d.ec, .int .i64 d.er, ev, .int .u64 d.ets, .int .i64 d.pid, .int .u64 d.pat, .int .i64 d.plf, .int .i64 d.sc, .int .i64 d.sr, .int .i64 d.se, .int .i64 d.sp]]) (R := fun res xw => res = .int .i64 (chkN d) ∧ Below w98.heap.size w98 xw) rfl rfl rfl (by kernel_rfl) (by kernel_rfl) (Tryz.call23 _ _) (rnCheck_any d mv lv ev w98 (hm.below hB101) (hg.below hB101) (he.below hB101) hR) (by rintro e x ⟨rfl, hb106⟩; exact ⟨_, rfl, ⟨rfl, hb106⟩⟩)) ?_ ?_; clear h97
   ·
    rintro _ w105 ⟨rfl, hb106⟩
    have hz107 := hb106.size
    have hB108 := hb_call hB101 hb106
    have hk109 := hk102.below hb106
    have hk110 := hk103.below hb106
    exact ⟨hB108, hk109, hk110⟩
   rintro _ w105 a104 ⟨rfl, hb106⟩ h104
   have hz107 := hb106.size
   have hB108 := hb_call hB101 hb106
   have hk109 := hk102.below hb106
   have hk110 := hk103.below hb106
   refine dk0 13 (v := .bool (chkN d == chkN d)) h104 rfl rfl ⟨hB108, hk109, hk110⟩ fun a111 h111 => ?_; clear h104
   refine dk0 14 (v := .bool (chkN d == chkN d)) h111 rfl rfl ⟨hB108, hk109, hk110⟩ fun a112 h112 => ?_; clear h111
   refine dk0 15 (v := .bool (chkN d == chkN d)) h112 rfl rfl ⟨hB108, hk109, hk110⟩ fun a113 h113 => ?_; clear h112
   have hc114 : (chkN d == chkN d) = true := by first | (simp; done) | (simp; omega)
   rw [hc114] at h113; clear hc114
   refine dk 16 (v := .agg #[.int .i64 d.k, .int .i64 d.n, .int .u64 d.t, .int .i64 d.ep, mv, .int .u64 d.fl, lv, .int .i64 d.ec, .int .i64 d.er, ev, .int .u64 d.ets, .int .i64 d.pid, .int .u64 d.pat, .int .i64 d.plf, .int .i64 d.sc, .int .i64 d.sr, .int .i64 d.se, .int .i64 d.sp]) h113 rfl rfl ⟨hB108, hk109, hk110⟩ (fun x hx => (rn_loadN rfl rfl Tryz.underlying58 rfl (by kernel_rfl) hx.2.1.all)) fun a115 h115 => ?_; clear h113
   refine dk 18 (v := .agg #[.int .i64 d.k, .int .i64 d.n, .int .u64 d.t, .int .i64 d.ep, mv, .int .u64 d.fl, lv, .int .i64 d.ec, .int .i64 d.er, ev, .int .u64 d.ets, .int .i64 d.pid, .int .u64 d.pat, .int .i64 d.plf, .int .i64 d.sc, .int .i64 d.sr, .int .i64 d.se, .int .i64 d.sp]) h115 rfl rfl ⟨hB108, hk109, hk110⟩ (fun x hx => (rn_loadN rfl rfl Tryz.underlying58 rfl (by kernel_rfl) hx.2.1.all)) fun a116 h116 => ?_; clear h115
   refine d1 17 h116 rfl rfl (op_call (args := #[.agg #[.int .i64 d.k, .int .i64 d.n, .int .u64 d.t, .int .i64 d.ep, mv, .int .u64 d.fl, lv, .int .i64 d.ec, .int .i64 d.er, ev, .int .u64 d.ets, .int .i64 d.pid, .int .u64 d.pat, .int .i64 d.plf, .int .i64 d.sc, .int .i64 d.sr, .int .i64 d.se, .int .i64 d.sp]]) (R := fun res xw => ∃ cm : Value, ∃ cl : Value, ∃ ce : Value, res = .agg #[.int .i64 ((cleanN d).k), .int .i64 ((cleanN d).n), .int .u64 ((cleanN d).t), .int .i64 ((cleanN d).ep), cm, .int .u64 ((cleanN d).fl), cl, .int .i64 ((cleanN d).ec), .int .i64 ((cleanN d).er), ce, .int .u64 ((cleanN d).ets), .int .i64 ((cleanN d).pid), .int .u64 ((cleanN d).pat), .int .i64 ((cleanN d).plf), .int .i64 ((cleanN d).sc), .int .i64 ((cleanN d).sr), .int .i64 ((cleanN d).se), .int .i64 ((cleanN d).sp)] ∧ xw.ownsRow w105.heap.size 154 2 cm ((cleanN d).ms).length (((cleanN d).ms).flatMap memE) ∧ xw.ownsRow w105.heap.size 3 1 cl ((cleanN d).lg).length (((cleanN d).lg).flatMap (intE .i64)) ∧ xw.ownsRow w105.heap.size 159 3 ce ((cleanN d).el).length (((cleanN d).el).flatMap opE) ∧ Below w105.heap.size w105 xw) rfl rfl rfl (by kernel_rfl) (by kernel_rfl) (Tryz.call25 _ _) (nClean_any d mv lv ev w105 (hm.below hB108) (hg.below hB108) (he.below hB108) hR (by first | omega | (simp; done) | (simp; omega))) (by rintro e x ⟨cm, cl, ce, rfl, hq122, hq123, hq124, hb125⟩; exact ⟨_, rfl, ⟨cm, cl, ce, rfl, hq122, hq123, hq124, hb125⟩⟩)) ?_ ?_; clear h116
   ·
    rintro _ w118 ⟨cm119, cl120, ce121, rfl, hq122, hq123, hq124, hb125⟩
    have hz126 := hb125.size
    have hl127 := sl_len (row_sl hq122 memE_len)
    have hl128 := sl_len (row_sl hq123 (intE_len .i64))
    have hl129 := sl_len (row_sl hq124 opE_len)
    have hB130 := hb_call hB108 hb125
    have hk131 := hk109.below hb125
    have hk132 := hk110.below hb125
    exact ⟨hB130, hk131, hk132⟩
   rintro _ w118 a117 ⟨cm119, cl120, ce121, rfl, hq122, hq123, hq124, hb125⟩ h117
   have hz126 := hb125.size
   have hl127 := sl_len (row_sl hq122 memE_len)
   have hl128 := sl_len (row_sl hq123 (intE_len .i64))
   have hl129 := sl_len (row_sl hq124 opE_len)
   have hB130 := hb_call hB108 hb125
   have hk131 := hk109.below hb125
   have hk132 := hk110.below hb125
   refine d1 19 h117 rfl rfl (op_call (args := #[.agg #[.int .i64 d.k, .int .i64 d.n, .int .u64 d.t, .int .i64 d.ep, mv, .int .u64 d.fl, lv, .int .i64 d.ec, .int .i64 d.er, ev, .int .u64 d.ets, .int .i64 d.pid, .int .u64 d.pat, .int .i64 d.plf, .int .i64 d.sc, .int .i64 d.sr, .int .i64 d.se, .int .i64 d.sp]]) (R := fun res xw => ∃ cm : Value, ∃ cl : Value, ∃ ce : Value, res = .agg #[.int .i64 ((cleanN d).k), .int .i64 ((cleanN d).n), .int .u64 ((cleanN d).t), .int .i64 ((cleanN d).ep), cm, .int .u64 ((cleanN d).fl), cl, .int .i64 ((cleanN d).ec), .int .i64 ((cleanN d).er), ce, .int .u64 ((cleanN d).ets), .int .i64 ((cleanN d).pid), .int .u64 ((cleanN d).pat), .int .i64 ((cleanN d).plf), .int .i64 ((cleanN d).sc), .int .i64 ((cleanN d).sr), .int .i64 ((cleanN d).se), .int .i64 ((cleanN d).sp)] ∧ CleanV d mv lv ev cm cl ce ∧ Below w118.heap.size w118 xw) rfl rfl rfl (by kernel_rfl) (by kernel_rfl) (Tryz.call26 _ _) (rnClean_any d mv lv ev w118 (hm.below hB130) (hg.below hB130) (he.below hB130) hR) (by rintro e x ⟨cm, cl, ce, rfl, hq138, hb139⟩; exact ⟨_, rfl, ⟨cm, cl, ce, rfl, hq138, hb139⟩⟩)) ?_ ?_; clear h117
   ·
    rintro _ w134 ⟨cm135, cl136, ce137, rfl, hq138, hb139⟩
    have hz140 := hb139.size
    have hB141 := hb_call hB130 hb139
    have hk142 := hk131.below hb139
    have hk143 := hk132.below hb139
    exact ⟨hB141, hk142, hk143⟩
   rintro _ w134 a133 ⟨cm135, cl136, ce137, rfl, hq138, hb139⟩ h133
   have hz140 := hb139.size
   have hB141 := hb_call hB130 hb139
   have hk142 := hk131.below hb139
   have hk143 := hk132.below hb139
   have hr146 := row_kept_new hq122 (below_grown hb139)
   have hr147 := row_kept_new hq123 (below_grown hb139)
   have hr148 := row_kept_new hq124 (below_grown hb139)
   refine d1 20 h133 rfl rfl (op_call (args := #[.agg #[.int .i64 ((cleanN d).k), .int .i64 ((cleanN d).n), .int .u64 ((cleanN d).t), .int .i64 ((cleanN d).ep), cm119, .int .u64 ((cleanN d).fl), cl120, .int .i64 ((cleanN d).ec), .int .i64 ((cleanN d).er), ce121, .int .u64 ((cleanN d).ets), .int .i64 ((cleanN d).pid), .int .u64 ((cleanN d).pat), .int .i64 ((cleanN d).plf), .int .i64 ((cleanN d).sc), .int .i64 ((cleanN d).sr), .int .i64 ((cleanN d).se), .int .i64 ((cleanN d).sp)], .agg #[.int .i64 ((cleanN d).k), .int .i64 ((cleanN d).n), .int .u64 ((cleanN d).t), .int .i64 ((cleanN d).ep), cm135, .int .u64 ((cleanN d).fl), cl136, .int .i64 ((cleanN d).ec), .int .i64 ((cleanN d).er), ce137, .int .u64 ((cleanN d).ets), .int .i64 ((cleanN d).pid), .int .u64 ((cleanN d).pat), .int .i64 ((cleanN d).plf), .int .i64 ((cleanN d).sc), .int .i64 ((cleanN d).sr), .int .i64 ((cleanN d).se), .int .i64 ((cleanN d).sp)]]) (R := fun res xw => res = .bool (sameN (cleanN d) (cleanN d)) ∧ Below w134.heap.size w134 xw) rfl rfl rfl (by kernel_rfl) (by kernel_rfl) (Tryz.call24 _ _) (rnSame_any (cleanN d) cm119 cl120 ce121 (cleanN d) cm135 cl136 ce137 w134 (row_sl hr146 memE_len) (row_sl hr147 (intE_len .i64)) (row_sl hr148 opE_len) (clean_R hR) (hq138.1 _ (hm.below hB141)) (hq138.2.1 _ (hg.below hB141)) (hq138.2.2 _ (he.below hB141)) (clean_R hR)) (by rintro e x ⟨rfl, hb149⟩; exact ⟨_, rfl, ⟨rfl, hb149⟩⟩)) ?_ ?_; clear h133
   ·
    rintro _ w145 ⟨rfl, hb149⟩
    have hz150 := hb149.size
    have hB151 := hb_call hB141 hb149
    have hk152 := hk142.below hb149
    have hk153 := hk143.below hb149
    exact ⟨hB151, hk152, hk153⟩
   rintro _ w145 a144 ⟨rfl, hb149⟩ h144
   have hz150 := hb149.size
   have hB151 := hb_call hB141 hb149
   have hk152 := hk142.below hb149
   have hk153 := hk143.below hb149
   refine dk0 21 (v := .bool (sameN (cleanN d) (cleanN d))) h144 rfl rfl ⟨hB151, hk152, hk153⟩ fun a154 h154 => ?_; clear h144
   refine dk0 22 (v := .bool (sameN (cleanN d) (cleanN d))) h154 rfl rfl ⟨hB151, hk152, hk153⟩ fun a155 h155 => ?_; clear h154
   have hc156 : (sameN (cleanN d) (cleanN d)) = true := sameN_refl _
   rw [hc156] at h155; clear hc156
   refine dk 23 (v := .agg #[.int .i64 d.k, .int .i64 d.n, .int .u64 d.t, .int .i64 d.ep, mv, .int .u64 d.fl, lv, .int .i64 d.ec, .int .i64 d.er, ev, .int .u64 d.ets, .int .i64 d.pid, .int .u64 d.pat, .int .i64 d.plf, .int .i64 d.sc, .int .i64 d.sr, .int .i64 d.se, .int .i64 d.sp]) h155 rfl rfl ⟨hB151, hk152, hk153⟩ (fun x hx => (rn_loadN rfl rfl Tryz.underlying58 rfl (by kernel_rfl) hx.2.1.all)) fun a157 h157 => ?_; clear h155
   refine dk 24 (v := .agg #[.int .i64 d2.k, .int .i64 d2.n, .int .u64 d2.t, .int .i64 d2.ep, mv2, .int .u64 d2.fl, lv2, .int .i64 d2.ec, .int .i64 d2.er, ev2, .int .u64 d2.ets, .int .i64 d2.pid, .int .u64 d2.pat, .int .i64 d2.plf, .int .i64 d2.sc, .int .i64 d2.sr, .int .i64 d2.se, .int .i64 d2.sp]) h157 rfl rfl ⟨hB151, hk152, hk153⟩ (fun x hx => (rn_loadN rfl rfl Tryz.underlying58 rfl (by kernel_rfl) hx.2.2.all)) fun a158 h158 => ?_; clear h157
   refine dk 26 (v := .agg #[.int .i64 d.k, .int .i64 d.n, .int .u64 d.t, .int .i64 d.ep, mv, .int .u64 d.fl, lv, .int .i64 d.ec, .int .i64 d.er, ev, .int .u64 d.ets, .int .i64 d.pid, .int .u64 d.pat, .int .i64 d.plf, .int .i64 d.sc, .int .i64 d.sr, .int .i64 d.se, .int .i64 d.sp]) h158 rfl rfl ⟨hB151, hk152, hk153⟩ (fun x hx => (rn_loadN rfl rfl Tryz.underlying58 rfl (by kernel_rfl) hx.2.1.all)) fun a159 h159 => ?_; clear h158
   refine dk 27 (v := .agg #[.int .i64 d2.k, .int .i64 d2.n, .int .u64 d2.t, .int .i64 d2.ep, mv2, .int .u64 d2.fl, lv2, .int .i64 d2.ec, .int .i64 d2.er, ev2, .int .u64 d2.ets, .int .i64 d2.pid, .int .u64 d2.pat, .int .i64 d2.plf, .int .i64 d2.sc, .int .i64 d2.sr, .int .i64 d2.se, .int .i64 d2.sp]) h159 rfl rfl ⟨hB151, hk152, hk153⟩ (fun x hx => (rn_loadN rfl rfl Tryz.underlying58 rfl (by kernel_rfl) hx.2.2.all)) fun a160 h160 => ?_; clear h159
   refine d1 25 h160 rfl rfl (op_call (args := #[.agg #[.int .i64 d.k, .int .i64 d.n, .int .u64 d.t, .int .i64 d.ep, mv, .int .u64 d.fl, lv, .int .i64 d.ec, .int .i64 d.er, ev, .int .u64 d.ets, .int .i64 d.pid, .int .u64 d.pat, .int .i64 d.plf, .int .i64 d.sc, .int .i64 d.sr, .int .i64 d.se, .int .i64 d.sp], .agg #[.int .i64 d2.k, .int .i64 d2.n, .int .u64 d2.t, .int .i64 d2.ep, mv2, .int .u64 d2.fl, lv2, .int .i64 d2.ec, .int .i64 d2.er, ev2, .int .u64 d2.ets, .int .i64 d2.pid, .int .u64 d2.pat, .int .i64 d2.plf, .int .i64 d2.sc, .int .i64 d2.sr, .int .i64 d2.se, .int .i64 d2.sp]]) (R := fun res xw => res = .bool (sameN d d2) ∧ Below w145.heap.size w145 xw) rfl rfl rfl (by kernel_rfl) (by kernel_rfl) (Tryz.call27 _ _) (nSame_any d mv lv ev d2 mv2 lv2 ev2 w145 (hm.below hB151) (hg.below hB151) (he.below hB151) hR (hm2.below hB151) (hg2.below hB151) (he2.below hB151) hR2) (by rintro e x ⟨rfl, hb163⟩; exact ⟨_, rfl, ⟨rfl, hb163⟩⟩)) ?_ ?_; clear h160
   ·
    rintro _ w162 ⟨rfl, hb163⟩
    have hz164 := hb163.size
    have hB165 := hb_call hB151 hb163
    have hk166 := hk152.below hb163
    have hk167 := hk153.below hb163
    exact ⟨hB165, hk166, hk167⟩
   rintro _ w162 a161 ⟨rfl, hb163⟩ h161
   have hz164 := hb163.size
   have hB165 := hb_call hB151 hb163
   have hk166 := hk152.below hb163
   have hk167 := hk153.below hb163
   refine d1 28 h161 rfl rfl (op_call (args := #[.agg #[.int .i64 d.k, .int .i64 d.n, .int .u64 d.t, .int .i64 d.ep, mv, .int .u64 d.fl, lv, .int .i64 d.ec, .int .i64 d.er, ev, .int .u64 d.ets, .int .i64 d.pid, .int .u64 d.pat, .int .i64 d.plf, .int .i64 d.sc, .int .i64 d.sr, .int .i64 d.se, .int .i64 d.sp], .agg #[.int .i64 d2.k, .int .i64 d2.n, .int .u64 d2.t, .int .i64 d2.ep, mv2, .int .u64 d2.fl, lv2, .int .i64 d2.ec, .int .i64 d2.er, ev2, .int .u64 d2.ets, .int .i64 d2.pid, .int .u64 d2.pat, .int .i64 d2.plf, .int .i64 d2.sc, .int .i64 d2.sr, .int .i64 d2.se, .int .i64 d2.sp]]) (R := fun res xw => res = .bool (sameN d d2) ∧ Below w162.heap.size w162 xw) rfl rfl rfl (by kernel_rfl) (by kernel_rfl) (Tryz.call24 _ _) (rnSame_any d mv lv ev d2 mv2 lv2 ev2 w162 (hm.below hB165) (hg.below hB165) (he.below hB165) hR (hm2.below hB165) (hg2.below hB165) (he2.below hB165) hR2) (by rintro e x ⟨rfl, hb170⟩; exact ⟨_, rfl, ⟨rfl, hb170⟩⟩)) ?_ ?_; clear h161
   ·
    rintro _ w169 ⟨rfl, hb170⟩
    have hz171 := hb170.size
    have hB172 := hb_call hB165 hb170
    have hk173 := hk166.below hb170
    have hk174 := hk167.below hb170
    exact ⟨hB172, hk173, hk174⟩
   rintro _ w169 a168 ⟨rfl, hb170⟩ h168
   have hz171 := hb170.size
   have hB172 := hb_call hB165 hb170
   have hk173 := hk166.below hb170
   have hk174 := hk167.below hb170
   refine dk0 29 (v := .bool ((sameN d d2) == (sameN d d2))) h168 rfl rfl ⟨hB172, hk173, hk174⟩ fun a175 h175 => ?_; clear h168
   refine dk0 30 (v := .bool ((sameN d d2) == (sameN d d2))) h175 rfl rfl ⟨hB172, hk173, hk174⟩ fun a176 h176 => ?_; clear h175
   refine dk0 31 (v := .bool ((sameN d d2) == (sameN d d2))) h176 rfl rfl ⟨hB172, hk173, hk174⟩ fun a177 h177 => ?_; clear h176
   have hc178 : ((sameN d d2) == (sameN d d2)) = true := by first | (simp; done) | (simp; omega)
   rw [hc178] at h177; clear hc178
   refine dk 32 (v := .agg #[.int .i64 d.k, .int .i64 d.n, .int .u64 d.t, .int .i64 d.ep, mv, .int .u64 d.fl, lv, .int .i64 d.ec, .int .i64 d.er, ev, .int .u64 d.ets, .int .i64 d.pid, .int .u64 d.pat, .int .i64 d.plf, .int .i64 d.sc, .int .i64 d.sr, .int .i64 d.se, .int .i64 d.sp]) h177 rfl rfl ⟨hB172, hk173, hk174⟩ (fun x hx => (rn_loadN rfl rfl Tryz.underlying58 rfl (by kernel_rfl) hx.2.1.all)) fun a179 h179 => ?_; clear h177
   refine dk 33 (v := .agg #[.int .i64 d.k, .int .i64 d.n, .int .u64 d.t, .int .i64 d.ep, mv, .int .u64 d.fl, lv, .int .i64 d.ec, .int .i64 d.er, ev, .int .u64 d.ets, .int .i64 d.pid, .int .u64 d.pat, .int .i64 d.plf, .int .i64 d.sc, .int .i64 d.sr, .int .i64 d.se, .int .i64 d.sp]) h179 rfl rfl ⟨hB172, hk173, hk174⟩ (fun x hx => (rn_loadN rfl rfl Tryz.underlying58 rfl (by kernel_rfl) hx.2.1.all)) fun a180 h180 => ?_; clear h179
   refine d1 34 h180 rfl rfl (op_call (args := #[.agg #[.int .i64 d.k, .int .i64 d.n, .int .u64 d.t, .int .i64 d.ep, mv, .int .u64 d.fl, lv, .int .i64 d.ec, .int .i64 d.er, ev, .int .u64 d.ets, .int .i64 d.pid, .int .u64 d.pat, .int .i64 d.plf, .int .i64 d.sc, .int .i64 d.sr, .int .i64 d.se, .int .i64 d.sp], .agg #[.int .i64 d.k, .int .i64 d.n, .int .u64 d.t, .int .i64 d.ep, mv, .int .u64 d.fl, lv, .int .i64 d.ec, .int .i64 d.er, ev, .int .u64 d.ets, .int .i64 d.pid, .int .u64 d.pat, .int .i64 d.plf, .int .i64 d.sc, .int .i64 d.sr, .int .i64 d.se, .int .i64 d.sp]]) (R := fun res xw => res = .bool (sameN d d) ∧ Below w169.heap.size w169 xw) rfl rfl rfl (by kernel_rfl) (by kernel_rfl) (Tryz.call27 _ _) (nSame_any d mv lv ev d mv lv ev w169 (hm.below hB172) (hg.below hB172) (he.below hB172) hR (hm.below hB172) (hg.below hB172) (he.below hB172) hR) (by rintro e x ⟨rfl, hb183⟩; exact ⟨_, rfl, ⟨rfl, hb183⟩⟩)) ?_ ?_; clear h180
   ·
    rintro _ w182 ⟨rfl, hb183⟩
    have hz184 := hb183.size
    have hB185 := hb_call hB172 hb183
    have hk186 := hk173.below hb183
    have hk187 := hk174.below hb183
    exact ⟨hB185, hk186, hk187⟩
   rintro _ w182 a181 ⟨rfl, hb183⟩ h181
   have hz184 := hb183.size
   have hB185 := hb_call hB172 hb183
   have hk186 := hk173.below hb183
   have hk187 := hk174.below hb183
   refine dk0 35 (v := .bool (sameN d d)) h181 rfl rfl ⟨hB185, hk186, hk187⟩ fun a188 h188 => ?_; clear h181
   refine dk0 36 (v := .bool (sameN d d)) h188 rfl rfl ⟨hB185, hk186, hk187⟩ fun a189 h189 => ?_; clear h188
   have hc190 : (sameN d d) = true := sameN_refl _
   rw [hc190] at h189; clear hc190
   refine d1 37 h189 rfl rfl (op_call (args := #[]) (R := fun res xw => res = .bool true ∧ Below w182.heap.size w182 xw) rfl rfl rfl (by kernel_rfl) (by kernel_rfl) (Tryz.call19 _ _) (awake10_any  w182 ) (by rintro e x ⟨rfl, hb193⟩; exact ⟨_, rfl, ⟨rfl, hb193⟩⟩)) ?_ ?_; clear h189
   ·
    rintro _ w192 ⟨rfl, hb193⟩
    have hz194 := hb193.size
    have hB195 := hb_call hB185 hb193
    have hk196 := hk186.below hb193
    have hk197 := hk187.below hb193
    exact ⟨hB195, hk196, hk197⟩
   rintro _ w192 a191 ⟨rfl, hb193⟩ h191
   have hz194 := hb193.size
   have hB195 := hb_call hB185 hb193
   have hk196 := hk186.below hb193
   have hk197 := hk187.below hb193
   refine dk0 38 (v := .bool true) h191 rfl rfl ⟨hB195, hk196, hk197⟩ fun a198 h198 => ?_; clear h191
   refine dk0 39 (v := .bool true) h198 rfl rfl ⟨hB195, hk196, hk197⟩ fun a199 h199 => ?_; clear h198
   refine dr_done (by kernel_rfl) ?_
   refine co_then ?_
   refine wp_ret ?_
   refine co_ret1 h199 rfl rfl ?_
   exact ⟨rfl, hB195⟩
  ·
   rw [hc37] at h36
   have hp200 : d2.ms.length > 20 ∨ d2.lg.length > 20 ∨ d2.el.length > 20 := of_decide_eq_true hc37
   clear hc37
   refine co_true h36 rfl ?_
   refine co_seq ?_
   refine co_reg ?_
   refine pw h36 rfl (op_call (args := #[]) (R := fun res xw => res = .bool true ∧ Below w33.heap.size w33 xw) rfl rfl rfl (by kernel_rfl) (by kernel_rfl) (Tryz.call19 _ _) (awake10_any  w33 ) (by rintro e x ⟨rfl, hb203⟩; exact ⟨_, rfl, ⟨rfl, hb203⟩⟩)) ?_; clear h36
   rintro _ w202 a201 ⟨rfl, hb203⟩ h201
   have hz204 := hb203.size
   refine pk0 (v := .bool true) h201 rfl fun a205 h205 => ?_; clear h201
   refine pl_nil ?_
   refine co_then ?_
   refine wp_ret ?_
   refine co_thenR ?_
   refine co_ret1 h205 rfl rfl ?_
   have hB206 := hb_call hB38 hb203
   exact ⟨rfl, hB206⟩
 ·
  rw [hc27] at h26
  have hp207 : d.ms.length > 20 ∨ d.lg.length > 20 ∨ d.el.length > 20 := of_decide_eq_true hc27
  clear hc27
  refine psk h26 rfl fun a208 h208 => ?_; clear h26
  refine psk h208 rfl fun a209 h209 => ?_; clear h208
  refine pk0 (v := .bool true) h209 rfl fun a210 h210 => ?_; clear h209
  refine pl_nil ?_
  refine co_then ?_
  refine co_true h210 rfl ?_
  refine co_seq ?_
  refine co_reg ?_
  refine pw h210 rfl (op_call (args := #[]) (R := fun res xw => res = .bool true ∧ Below w21.heap.size w21 xw) rfl rfl rfl (by kernel_rfl) (by kernel_rfl) (Tryz.call19 _ _) (awake10_any  w21 ) (by rintro e x ⟨rfl, hb213⟩; exact ⟨_, rfl, ⟨rfl, hb213⟩⟩)) ?_; clear h210
  rintro _ w212 a211 ⟨rfl, hb213⟩ h211
  have hz214 := hb213.size
  refine pk0 (v := .bool true) h211 rfl fun a215 h215 => ?_; clear h211
  refine pl_nil ?_
  refine co_then ?_
  refine wp_ret ?_
  refine co_thenR ?_
  refine co_ret1 h215 rfl rfl ?_
  have hB216 := hb_call hB28 hb213
  exact ⟨rfl, hB216⟩
end Go.Proofs.YteioaaegooebpaaGreat

/- catenalaw10: NotePuts over two notes that came in. Conditions: none. -/
namespace Go.Proofs.YteioaaegooebpaaGreat
open Go.RowKit
theorem notePuts_x (a b : NoteX) (w : World) (ha : NoteOk w a) (hb : NoteOk w b) : Calls Tryz.prog 5 #[noteV a, noteV b] w fun e w' => e = .returned (.bool true) ∧ Below w.heap.size w w' :=
  notePuts_law a.d a.mv a.lv a.ev b.d b.mv b.lv b.ev w ha.hm ha.hg ha.he ha.hR hb.hm hb.hg hb.he hb.hR
end Go.Proofs.YteioaaegooebpaaGreat
