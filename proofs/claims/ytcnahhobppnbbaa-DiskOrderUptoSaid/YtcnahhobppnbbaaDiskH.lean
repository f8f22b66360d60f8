/- catenalaw11: DiskSafe. Conditions: texts of at most 1048576 bytes. -/
import Derived.Test.YtcnahhobppnbbaaDiskF
import Derived.Test.YtcnahhobppnbbaaDiskG
import Derived.Test.YtcnahhobppnbbaaStrs
namespace Go.Proofs.Ytcnahhobppnbbaa
open Go.RowKit Go.PlainAid
set_option linter.unusedVariables false


theorem strE_lenD (y : ByteArray) : (strE y).length = 1 := rfl
theorem strE_oneD (y : ByteArray) : ∀ u ∈ strE y, u.oneCell' = true := by intro u hu; simp [strE] at hu; subst hu; rfl

set_option maxRecDepth 100000 in
set_option maxHeartbeats 3200000 in
theorem diskSafe_law (v1 : Value) (l1 : List ActT) (v2 : Value) (l2 : List ActT) (n : Int) (w : World) (hs1 : SliceOf actE 4 w v1 l1) (hok1 : ∀ z ∈ l1, actOk z) (hs2 : SliceOf actE 4 w v2 l2) (hok2 : ∀ z ∈ l2, actOk z) (hni : -9223372036854775808 ≤ n ∧ n ≤ 9223372036854775807) :
    Calls Try.prog 4 #[v1, v2, .int .i64 n] w fun e w' => e = .returned (.bool true) ∧ Below w.heap.size w w' := by
 have hB0 := Below.refl w.heap.size w
 have hl_hs1 := sl_len hs1
 have hl_hs2 := sl_len hs2
 refine co_enter (n := 168) Try.func4 rfl rfl rfl [(0, v1), (1, v2), (2, .int .i64 n)] rfl (fun a h0 => ?_)
 refine co_seq ?_
 refine co_reg ?_
 refine pk0 (v := .bool false) h0 rfl fun a1 h1 => ?_; clear h0
 refine pl_nil ?_
 refine co_then ?_
 refine co_seq ?_
 refine co_reg ?_
 refine pw h1 rfl (op_call (args := #[]) (R := fun res xw => ∃ N, res = pt N 0 ∧ DObj w.heap.size xw N 0 s0D ∧ Below w.heap.size w xw) rfl rfl rfl (by kernel_rfl) (by kernel_rfl) (Try.call15 _ _) (tNew w.heap.size w (by omega)) (by rintro e x ⟨N, rfl, h1, h2⟩; exact ⟨_, rfl, N, rfl, h1, h2⟩)) ?_; clear h1
 rintro _ w3 a2 ⟨N6, rfl, hd4, hb7⟩ h2
 have hz8 := hb7.size
 refine pk0 (v := pt N6 0) h2 rfl fun a9 h9 => ?_; clear h2
 refine pl_nil ?_
 refine co_then ?_
 refine co_seq ?_
 refine co_seq ?_
 refine co_reg ?_
 refine pk0 (v := .int .i64 0) h9 rfl fun a10 h10 => ?_; clear h9
 refine pl_nil ?_
 refine co_then ?_
 refine wp_block ?_
 have h11 : Slots 168 [(0, v1), (1, v2), (2, .int .i64 n), (7, pt N6 0), (8, .int .i64 0)] _ := h10.sub ⟨rfl, rfl, rfl, rfl, rfl, trivial⟩; clear h10
 refine co_loop (fun mm a x => ∃ (i : Nat), Slots 168 [(0, v1), (1, v2), (2, .int .i64 n), (7, pt N6 0), (8, .int .i64 ((i : Nat) : Int))] a ∧ mm = l1.length - i ∧ (i ≤ l1.length) ∧ (i ≤ 30) ∧ DObj w.heap.size x N6 (0 + i) (wrAll s0D (l1.take i)) ∧ Below w.heap.size w x) (l1.length - 0) ?_ ?_
 have hB12 := hb_call hB0 hb7
 · exact ⟨0, h11.sub ⟨rfl, rfl, rfl, rfl, (slot_eq rfl (congrArg (Value.int .i64) (by first | rfl | omega))), trivial⟩, rfl, by omega, by omega, (dk_eq hd4 (by first | rfl | exact (wrAll_at (by assumption)).symm) (by omega)), hB12⟩
 · rintro k13 a14 w15 ⟨i, h14, rfl, hi16, hi17, hf18, hB19⟩
   have hz20 := hB19.size
   refine co_seq ?_
   refine co_seq ?_
   refine co_reg ?_
   refine pk0 (v := .int .i64 ((i : Nat) : Int)) h14 rfl fun a21 h21 => ?_; clear h14
   refine pk0 (v := v1) h21 rfl fun a22 h22 => ?_; clear h21
   refine pk (v := .int .i64 ((l1.length : Nat) : Int)) h22 rfl (rn_len rfl rfl Try.underlying22 (hs1.below hB19)) fun a23 h23 => ?_; clear h22
   refine pk0 (v := .bool (decide (((i : Nat) : Int) < ((l1.length : Nat) : Int)))) h23 rfl fun a24 h24 => ?_; clear h23
   refine pk0 (v := .bool (decide (((i : Nat) : Int) < ((l1.length : Nat) : Int)))) h24 rfl fun a25 h25 => ?_; clear h24
   cases hc26 : (decide (((i : Nat) : Int) < ((l1.length : Nat) : Int)))
   ·
    rw [hc26] at h25
    have hp27 : ¬ (((i : Nat) : Int) < ((l1.length : Nat) : Int)) := of_decide_eq_false hc26
    clear hc26
    refine psk h25 rfl fun a28 h28 => ?_; clear h25
    refine psk h28 rfl fun a29 h29 => ?_; clear h28
    refine pk0 (v := .bool false) h29 rfl fun a30 h30 => ?_; clear h29
    refine pl_nil ?_
    refine co_then ?_
    refine co_false h30 rfl ?_
    refine wp_exit ?_
    refine co_thenX ?_
    refine co_thenX ?_
    refine co_blockX ?_
    refine co_then ?_
    refine co_seq ?_
    refine co_reg ?_
    refine pk0 (v := pt N6 0) h30 rfl fun a31 h31 => ?_; clear h30
    have hplA := (wrAll_I s0_I hok1 i).pl
    have hpl36 := (wrAll_I s0_I hok1 i).pl
    refine pw h31 rfl (op_call (args := #[pt N6 0]) (R := fun res xw => res = .int .i64 (sumP (wrAll s0D (l1.take i)).ps) ∧ DObj w.heap.size xw N6 (0 + i + (wrAll s0D (l1.take i)).ps.length) (synS (wrAll s0D (l1.take i))) ∧ ButD w.heap.size w15 xw) rfl rfl rfl (by kernel_rfl) (by kernel_rfl) (Try.call22 _ _) (tSync w15 hf18 ((wrAll_I s0_I hok1 i).hsb (by omega))) (by rintro e x ⟨rfl, h1, h2⟩; exact ⟨_, rfl, rfl, h1, h2⟩)) ?_; clear h31
    rintro _ w33 a32 ⟨rfl, hd34, hx35⟩ h32
    have hz38 := hx35.size
    have hB37 := (hbD hB19 hx35)
    have hz39 := hB37.size
    refine pl_nil ?_
    refine co_then ?_
    refine co_seq ?_
    refine co_reg ?_
    refine pk0 (v := pt N6 0) h32 rfl fun a40 h40 => ?_; clear h32
    refine pw h40 rfl (op_call (args := #[pt N6 0]) (R := fun res xw => ∃ (ys : List Int) (u : Value), res = u ∧ xw.ownsRow w33.heap.size 3 1 u ys.length (ys.flatMap (intE .i64)) ∧ KeysF (synS (wrAll s0D (l1.take i))).fm ys ∧ ys.length ≤ (0 + i + (wrAll s0D (l1.take i)).ps.length) ∧ DObj w.heap.size xw N6 (0 + i + (wrAll s0D (l1.take i)).ps.length) (synS (wrAll s0D (l1.take i))) ∧ ButD w.heap.size w33 xw) rfl rfl rfl (by kernel_rfl) (by kernel_rfl) (Try.call23 _ _) (tFiles w33 hd34 (by omega)) (by rintro e x ⟨ys, u, rfl, h⟩; exact ⟨_, rfl, ys, u, rfl, h⟩)) ?_; clear h40
    rintro u46 w42 a41 ⟨ys45, _, rfl, hr47, hK48, hyl49, hd43, hx44⟩ h41
    have hz51 := hx44.size
    have hB50 := (hbD hB37 hx44)
    have hz52 := hB50.size
    have hl53 := sl_len (row_sl hr47 (intE_len .i64))
    refine pk0 (v := u46) h41 rfl fun a54 h54 => ?_; clear h41
    refine pl_nil ?_
    refine co_then ?_
    refine co_seq ?_
    refine co_reg ?_
    refine pk0 (v := .slice none 0 0) h54 rfl fun a55 h55 => ?_; clear h54
    refine pl_nil ?_
    refine co_then ?_
    refine co_seq ?_
    refine co_seq ?_
    refine co_reg ?_
    refine pk0 (v := .int .i64 0) h55 rfl fun a56 h56 => ?_; clear h55
    refine pl_nil ?_
    refine co_then ?_
    refine wp_block ?_
    have h57 : Slots 168 [(1, v2), (2, .int .i64 n), (7, pt N6 0), (9, u46), (10, .slice none 0 0), (11, .int .i64 0)] _ := h56.sub ⟨rfl, rfl, rfl, rfl, rfl, rfl, trivial⟩; clear h56
    refine co_loop (fun mm a x => ∃ (j : Nat) (u1 : Value), Slots 168 [(1, v2), (2, .int .i64 n), (7, pt N6 0), (9, u46), (10, u1), (11, .int .i64 ((j : Nat) : Int))] a ∧ mm = ys45.length - j ∧ (j ≤ ys45.length) ∧ (w.heap.size ≤ x.heap.size) ∧ DObj w.heap.size x N6 (0 + i + (wrAll s0D (l1.take i)).ps.length) (synS (wrAll s0D (l1.take i))) ∧ x.ownsRow w33.heap.size 3 1 u46 ys45.length (ys45.flatMap (intE .i64)) ∧ x.ownsRow w.heap.size 9 1 u1 ((ys45.take j).map (datF (synS (wrAll s0D (l1.take i))).fm)).length (((ys45.take j).map (datF (synS (wrAll s0D (l1.take i))).fm)).flatMap strE) ∧ Below w.heap.size w x) (ys45.length - 0) ?_ ?_
    · exact ⟨0, (.slice none 0 0), h57.sub ⟨rfl, rfl, rfl, rfl, rfl, (slot_eq rfl (congrArg (Value.int .i64) (by first | rfl | omega))), trivial⟩, rfl, by omega, by omega, (dk_eq hd43 (rfl) (by omega)), hr47, (row_nilL _ _ _ _ _), hB50⟩
    · rintro k58 a59 w60 ⟨j, u1, h59, rfl, hi61, hi62, hf63, hf64, hf65, hB66⟩
      have hz67 := hB66.size
      have hml68 : ((ys45.take j).map (datF (synS (wrAll s0D (l1.take i))).fm)).length = j := by rw [List.length_map, List.length_take]; omega
      refine co_seq ?_
      refine co_seq ?_
      refine co_reg ?_
      refine pk0 (v := .int .i64 ((j : Nat) : Int)) h59 rfl fun a69 h69 => ?_; clear h59
      refine pk0 (v := u46) h69 rfl fun a70 h70 => ?_; clear h69
      refine pk (v := .int .i64 ((ys45.length : Nat) : Int)) h70 rfl (rn_lenOwn rfl rfl Try.underlying37 hf64) fun a71 h71 => ?_; clear h70
      refine pk0 (v := .bool (decide (((j : Nat) : Int) < ((ys45.length : Nat) : Int)))) h71 rfl fun a72 h72 => ?_; clear h71
      refine pl_nil ?_
      refine co_then ?_
      cases hc73 : (decide (((j : Nat) : Int) < ((ys45.length : Nat) : Int)))
      ·
       rw [hc73] at h72
       have hp74 : ¬ (((j : Nat) : Int) < ((ys45.length : Nat) : Int)) := of_decide_eq_false hc73
       clear hc73
       refine co_false h72 rfl ?_
       refine wp_exit ?_
       refine co_thenX ?_
       refine co_thenX ?_
       refine co_blockX ?_
       refine co_then ?_
       refine co_seq ?_
       refine co_seq ?_
       refine co_reg ?_
       refine pk0 (v := .int .i64 0) h72 rfl fun a75 h75 => ?_; clear h72
       refine pl_nil ?_
       refine co_then ?_
       refine wp_block ?_
       have h76 : Slots 168 [(1, v2), (2, .int .i64 n), (7, pt N6 0), (9, u46), (10, u1), (12, .int .i64 0)] _ := h75.sub ⟨rfl, rfl, rfl, rfl, rfl, rfl, trivial⟩; clear h75
       refine co_loop (fun mm a x => ∃ (k : Nat), Slots 168 [(1, v2), (2, .int .i64 n), (7, pt N6 0), (9, u46), (10, u1), (12, .int .i64 ((k : Nat) : Int))] a ∧ mm = l2.length - k ∧ (k ≤ l2.length) ∧ (k ≤ 30) ∧ DObj w.heap.size x N6 (0 + i + (wrAll s0D (l1.take i)).ps.length + k) (wrAll (synS (wrAll s0D (l1.take i))) (l2.take k)) ∧ x.ownsRow w33.heap.size 3 1 u46 ys45.length (ys45.flatMap (intE .i64)) ∧ x.ownsRow w.heap.size 9 1 u1 ((ys45.take j).map (datF (synS (wrAll s0D (l1.take i))).fm)).length (((ys45.take j).map (datF (synS (wrAll s0D (l1.take i))).fm)).flatMap strE) ∧ Below w.heap.size w x) (l2.length - 0) ?_ ?_
       · exact ⟨0, h76.sub ⟨rfl, rfl, rfl, rfl, rfl, (slot_eq rfl (congrArg (Value.int .i64) (by first | rfl | omega))), trivial⟩, rfl, by omega, by omega, (dk_eq hf63 (by first | rfl | exact (wrAll_at (by assumption)).symm) (by omega)), hf64, hf65, hB66⟩
       · rintro k77 a78 w79 ⟨k, h78, rfl, hi80, hi81, hf82, hf83, hf84, hB85⟩
         have hz86 := hB85.size
         refine co_seq ?_
         refine co_seq ?_
         refine co_reg ?_
         refine pk0 (v := .int .i64 ((k : Nat) : Int)) h78 rfl fun a87 h87 => ?_; clear h78
         refine pk0 (v := v2) h87 rfl fun a88 h88 => ?_; clear h87
         refine pk (v := .int .i64 ((l2.length : Nat) : Int)) h88 rfl (rn_len rfl rfl Try.underlying22 (hs2.below hB85)) fun a89 h89 => ?_; clear h88
         refine pk0 (v := .bool (decide (((k : Nat) : Int) < ((l2.length : Nat) : Int)))) h89 rfl fun a90 h90 => ?_; clear h89
         refine pk0 (v := .bool (decide (((k : Nat) : Int) < ((l2.length : Nat) : Int)))) h90 rfl fun a91 h91 => ?_; clear h90
         cases hc92 : (decide (((k : Nat) : Int) < ((l2.length : Nat) : Int)))
         ·
          rw [hc92] at h91
          have hp93 : ¬ (((k : Nat) : Int) < ((l2.length : Nat) : Int)) := of_decide_eq_false hc92
          clear hc92
          refine psk h91 rfl fun a94 h94 => ?_; clear h91
          refine psk h94 rfl fun a95 h95 => ?_; clear h94
          refine pk0 (v := .bool false) h95 rfl fun a96 h96 => ?_; clear h95
          refine pl_nil ?_
          refine co_then ?_
          refine co_false h96 rfl ?_
          refine wp_exit ?_
          refine co_thenX ?_
          refine co_thenX ?_
          refine co_blockX ?_
          refine co_then ?_
          refine co_seq ?_
          refine co_reg ?_
          refine pk0 (v := .slice none 0 0) h96 rfl fun a97 h97 => ?_; clear h96
          refine pl_nil ?_
          refine co_then ?_
          refine co_seq ?_
          refine co_seq ?_
          refine co_reg ?_
          refine pk0 (v := .int .i64 0) h97 rfl fun a98 h98 => ?_; clear h97
          refine pl_nil ?_
          refine co_then ?_
          refine wp_block ?_
          obtain ⟨bs99, hb_bs99⟩ : ∃ b, b = w79.heap.size := ⟨_, rfl⟩
          have hu100 : ∀ k, Value.ownBlock u1 = some k → k < bs99 := fun k hk => by have := (hf84.lt k hk).2; omega
          have h101 : Slots 168 [(2, .int .i64 n), (7, pt N6 0), (9, u46), (10, u1), (13, .slice none 0 0), (14, .int .i64 0)] _ := h98.sub ⟨rfl, rfl, rfl, rfl, rfl, rfl, trivial⟩; clear h98
          refine co_loop (fun mm a x => ∃ (jj : Nat) (u2 : Value), Slots 168 [(2, .int .i64 n), (7, pt N6 0), (9, u46), (10, u1), (13, u2), (14, .int .i64 ((jj : Nat) : Int))] a ∧ mm = ys45.length - jj ∧ (jj ≤ ys45.length) ∧ (bs99 ≤ x.heap.size) ∧ DObj w.heap.size x N6 (0 + i + (wrAll s0D (l1.take i)).ps.length + k) (wrAll (synS (wrAll s0D (l1.take i))) (l2.take k)) ∧ x.ownsRow w33.heap.size 3 1 u46 ys45.length (ys45.flatMap (intE .i64)) ∧ x.ownsRow w.heap.size 9 1 u1 ((ys45.take j).map (datF (synS (wrAll s0D (l1.take i))).fm)).length (((ys45.take j).map (datF (synS (wrAll s0D (l1.take i))).fm)).flatMap strE) ∧ x.ownsRow bs99 9 1 u2 ((ys45.take jj).map (datF (wrAll (synS (wrAll s0D (l1.take i))) (l2.take k)).fm)).length (((ys45.take jj).map (datF (wrAll (synS (wrAll s0D (l1.take i))) (l2.take k)).fm)).flatMap strE) ∧ Below w.heap.size w x) (ys45.length - 0) ?_ ?_
          · exact ⟨0, (.slice none 0 0), h101.sub ⟨rfl, rfl, rfl, rfl, rfl, (slot_eq rfl (congrArg (Value.int .i64) (by first | rfl | omega))), trivial⟩, rfl, by omega, by omega, (dk_eq hf82 (rfl) (by omega)), hf83, hf84, (row_nilL _ _ _ _ _), hB85⟩
          · rintro k102 a103 w104 ⟨jj, u2, h103, rfl, hi105, hi106, hf107, hf108, hf109, hf110, hB111⟩
            have hz112 := hB111.size
            have hml113 : ((ys45.take jj).map (datF (wrAll (synS (wrAll s0D (l1.take i))) (l2.take k)).fm)).length = jj := by rw [List.length_map, List.length_take]; omega
            refine co_seq ?_
            refine co_seq ?_
            refine co_reg ?_
            refine pk0 (v := .int .i64 ((jj : Nat) : Int)) h103 rfl fun a114 h114 => ?_; clear h103
            refine pk0 (v := u46) h114 rfl fun a115 h115 => ?_; clear h114
            refine pk (v := .int .i64 ((ys45.length : Nat) : Int)) h115 rfl (rn_lenOwn rfl rfl Try.underlying37 hf108) fun a116 h116 => ?_; clear h115
            refine pk0 (v := .bool (decide (((jj : Nat) : Int) < ((ys45.length : Nat) : Int)))) h116 rfl fun a117 h117 => ?_; clear h116
            refine pl_nil ?_
            refine co_then ?_
            cases hc118 : (decide (((jj : Nat) : Int) < ((ys45.length : Nat) : Int)))
            ·
             rw [hc118] at h117
             have hp119 : ¬ (((jj : Nat) : Int) < ((ys45.length : Nat) : Int)) := of_decide_eq_false hc118
             clear hc118
             refine co_false h117 rfl ?_
             refine wp_exit ?_
             refine co_thenX ?_
             refine co_thenX ?_
             refine co_blockX ?_
             refine co_then ?_
             refine co_seq ?_
             refine co_reg ?_
             refine pk0 (v := pt N6 0) h117 rfl fun a120 h120 => ?_; clear h117
             refine pw h120 rfl (op_call (args := #[pt N6 0]) (R := fun res xw => res = .int .i64 (sumP (wrAll (synS (wrAll s0D (l1.take i))) (l2.take k)).ps) ∧ DObj w.heap.size xw N6 (0 + i + (wrAll s0D (l1.take i)).ps.length + k) (wrAll (synS (wrAll s0D (l1.take i))) (l2.take k)) ∧ ButD w.heap.size w104 xw) rfl rfl rfl (by kernel_rfl) (by kernel_rfl) (Try.call24 _ _) (tPending w104 hf107 ((wrAll_I (wrAll_I s0_I hok1 i).sync.1 hok2 k).hsb (by omega))) (by rintro e x ⟨rfl, h1, h2⟩; exact ⟨_, rfl, rfl, h1, h2⟩)) ?_; clear h120
             rintro _ w122 a121 ⟨rfl, hd123, hx124⟩ h121
             have hz126 := hx124.size
             have hB125 := (hbD hB111 hx124)
             have hz127 := hB125.size
             refine pk0 (v := .int .i64 (sumP (wrAll (synS (wrAll s0D (l1.take i))) (l2.take k)).ps)) h121 rfl fun a128 h128 => ?_; clear h121
             refine pl_nil ?_
             refine co_then ?_
             refine co_seq ?_
             refine co_reg ?_
             refine pk0 (v := pt N6 0) h128 rfl fun a129 h129 => ?_; clear h128
             refine pk0 (v := .int .i64 n) h129 rfl fun a130 h130 => ?_; clear h129
             have hpl135 := (wrAll_I (wrAll_I s0_I hok1 i).sync.1 hok2 k).pl
             refine pw h130 rfl (op_call (args := #[pt N6 0, .int .i64 n]) (R := fun res xw => res = .tuple #[] ∧ DObj w.heap.size xw N6 (2 * (0 + i + (wrAll s0D (l1.take i)).ps.length + k) + 2 * (wrAll (synS (wrAll s0D (l1.take i))) (l2.take k)).ps.length) (crS (wrAll (synS (wrAll s0D (l1.take i))) (l2.take k)) n) ∧ ButD w.heap.size w122 xw) rfl rfl rfl (by kernel_rfl) (by kernel_rfl) (Try.call25 _ _) (tCrash w122 n hd123 (by omega) ((wrAll_I (wrAll_I s0_I hok1 i).sync.1 hok2 k).hpl (by omega)) (by rw [wrAll_boots]; show 0 ≤ (wrAll s0D _).boots ∧ (wrAll s0D _).boots ≤ _; rw [wrAll_boots]; decide) hni ((wrAll_I (wrAll_I s0_I hok1 i).sync.1 hok2 k).hcr (by omega) hni) (wrAll_I (wrAll_I s0_I hok1 i).sync.1 hok2 k).hfin) (by rintro e x ⟨rfl, h1, h2⟩; exact ⟨_, rfl, rfl, h1, h2⟩)) ?_; clear h130
             rintro _ w132 a131 ⟨rfl, hd133, hx134⟩ h131
             have hz137 := hx134.size
             have hB136 := (hbD hB125 hx134)
             have hz138 := hB136.size
             refine pl_nil ?_
             refine co_then ?_
             refine co_seq ?_
             refine co_reg ?_
             refine pk0 (v := .int .i64 0) h131 rfl fun a139 h139 => ?_; clear h131
             refine pl_nil ?_
             refine co_then ?_
             refine co_seq ?_
             refine co_seq ?_
             refine co_reg ?_
             refine pk0 (v := .int .i64 0) h139 rfl fun a140 h140 => ?_; clear h139
             refine pl_nil ?_
             refine co_then ?_
             refine wp_block ?_
             have h141 : Slots 168 [(2, .int .i64 n), (7, pt N6 0), (9, u46), (10, u1), (13, u2), (15, .int .i64 (sumP (wrAll (synS (wrAll s0D (l1.take i))) (l2.take k)).ps)), (16, .int .i64 0), (17, .int .i64 0)] _ := h140.sub ⟨rfl, rfl, rfl, rfl, rfl, rfl, rfl, rfl, trivial⟩; clear h140
             refine co_loop (fun mm a x => ∃ (q : Nat), Slots 168 [(2, .int .i64 n), (7, pt N6 0), (9, u46), (10, u1), (13, u2), (15, .int .i64 (sumP (wrAll (synS (wrAll s0D (l1.take i))) (l2.take k)).ps)), (16, .int .i64 (sumQ (sumK (keptL (mx0 n) (wrAll (synS (wrAll s0D (l1.take i))) (l2.take k)).ps)) (ys45.take q))), (17, .int .i64 ((q : Nat) : Int))] a ∧ mm = ys45.length - q ∧ (q ≤ ys45.length) ∧ DObj w.heap.size x N6 (2 * (0 + i + (wrAll s0D (l1.take i)).ps.length + k) + 2 * (wrAll (synS (wrAll s0D (l1.take i))) (l2.take k)).ps.length) (crS (wrAll (synS (wrAll s0D (l1.take i))) (l2.take k)) n) ∧ x.ownsRow w33.heap.size 3 1 u46 ys45.length (ys45.flatMap (intE .i64)) ∧ x.ownsRow w.heap.size 9 1 u1 ((ys45.take j).map (datF (synS (wrAll s0D (l1.take i))).fm)).length (((ys45.take j).map (datF (synS (wrAll s0D (l1.take i))).fm)).flatMap strE) ∧ x.ownsRow bs99 9 1 u2 ((ys45.take jj).map (datF (wrAll (synS (wrAll s0D (l1.take i))) (l2.take k)).fm)).length (((ys45.take jj).map (datF (wrAll (synS (wrAll s0D (l1.take i))) (l2.take k)).fm)).flatMap strE) ∧ Below w.heap.size w x) (ys45.length - 0) ?_ ?_
             have hr142 := rowD hf108 (by unfold offD; decide) hx124
             have hr143 := rowD hr142 (by unfold offD; decide) hx134
             have hr144 := rowD hf109 (by unfold offD; decide) hx124
             have hr145 := rowD hr144 (by unfold offD; decide) hx134
             have hr146 := rowD hf110 (by unfold offD; decide) hx124
             have hr147 := rowD hr146 (by unfold offD; decide) hx134
             · exact ⟨0, h141.sub ⟨rfl, rfl, rfl, rfl, rfl, rfl, (slot_eq rfl (congrArg (Value.int .i64) (by first | rfl | (rw [hqa]; omega)))), (slot_eq rfl (congrArg (Value.int .i64) (by first | rfl | omega))), trivial⟩, rfl, by omega, (dk_eq hd133 (rfl) (by omega)), hr143, hr145, hr147, hB136⟩
             · rintro k148 a149 w150 ⟨q, h149, rfl, hi151, hf152, hf153, hf154, hf155, hB156⟩
               have hz157 := hB156.size
               have hsq := sumQ_takes hK48.1 (wrAll_I (wrAll_I s0_I hok1 i).sync.1 hok2 k) n q; have hsq1 := sumQ_takes hK48.1 (wrAll_I (wrAll_I s0_I hok1 i).sync.1 hok2 k) n (q + 1)
               have hmx0 : mx0 n ≤ 9223372036854775807 := by unfold mx0; split <;> omega
               refine co_seq ?_
               refine co_seq ?_
               refine co_reg ?_
               refine pk0 (v := .int .i64 ((q : Nat) : Int)) h149 rfl fun a158 h158 => ?_; clear h149
               refine pk0 (v := u46) h158 rfl fun a159 h159 => ?_; clear h158
               refine pk (v := .int .i64 ((ys45.length : Nat) : Int)) h159 rfl (rn_lenOwn rfl rfl Try.underlying37 hf153) fun a160 h160 => ?_; clear h159
               refine pk0 (v := .bool (decide (((q : Nat) : Int) < ((ys45.length : Nat) : Int)))) h160 rfl fun a161 h161 => ?_; clear h160
               refine pl_nil ?_
               refine co_then ?_
               cases hc162 : (decide (((q : Nat) : Int) < ((ys45.length : Nat) : Int)))
               ·
                rw [hc162] at h161
                have hp163 : ¬ (((q : Nat) : Int) < ((ys45.length : Nat) : Int)) := of_decide_eq_false hc162
                clear hc162
                refine co_false h161 rfl ?_
                refine wp_exit ?_
                refine co_thenX ?_
                refine co_thenX ?_
                refine co_blockX ?_
                refine co_then ?_
                refine co_seq ?_
                refine co_reg ?_
                refine pk0 (v := .int .i64 (sumQ (sumK (keptL (mx0 n) (wrAll (synS (wrAll s0D (l1.take i))) (l2.take k)).ps)) (ys45.take q))) h161 rfl fun a164 h164 => ?_; clear h161
                refine pk0 (v := .int .i64 n) h164 rfl fun a165 h165 => ?_; clear h164
                obtain ⟨kp166, hkp167⟩ : ∃ z : Int, z = (if n < 0 then 0 else n) := ⟨_, rfl⟩
                have hq168 : kp166 ≥ n ∧ kp166 ≥ 0 ∧ (kp166 = n ∨ kp166 = 0) := by rw [hkp167]; split <;> omega
                refine pk (v := .int .i64 kp166) h165 rfl (by rw [hkp167]; kernel_rfl) fun a169 h169 => ?_; clear h165
                refine pk0 (v := .int .i64 (sumP (wrAll (synS (wrAll s0D (l1.take i))) (l2.take k)).ps)) h169 rfl fun a170 h170 => ?_; clear h169
                obtain ⟨kp171, hkp172⟩ : ∃ z : Int, z = (if sumP (wrAll (synS (wrAll s0D (l1.take i))) (l2.take k)).ps < kp166 then sumP (wrAll (synS (wrAll s0D (l1.take i))) (l2.take k)).ps else kp166) := ⟨_, rfl⟩
                have hq173 : kp171 ≤ kp166 ∧ kp171 ≤ sumP (wrAll (synS (wrAll s0D (l1.take i))) (l2.take k)).ps ∧ (kp171 = kp166 ∨ kp171 = sumP (wrAll (synS (wrAll s0D (l1.take i))) (l2.take k)).ps) := by rw [hkp172]; split <;> omega
                refine pk (v := .int .i64 kp171) h170 rfl (by rw [hkp172]; kernel_rfl) fun a174 h174 => ?_; clear h170
                refine pk0 (v := .bool (decide (sumQ (sumK (keptL (mx0 n) (wrAll (synS (wrAll s0D (l1.take i))) (l2.take k)).ps)) (ys45.take q) ≤ kp171))) h174 rfl fun a175 h175 => ?_; clear h174
                refine pk0 (v := .bool (decide (sumQ (sumK (keptL (mx0 n) (wrAll (synS (wrAll s0D (l1.take i))) (l2.take k)).ps)) (ys45.take q) ≤ kp171))) h175 rfl fun a176 h176 => ?_; clear h175
                have hc177 : (decide (sumQ (sumK (keptL (mx0 n) (wrAll (synS (wrAll s0D (l1.take i))) (l2.take k)).ps)) (ys45.take q) ≤ kp171)) = true := by have e : mx0 n = kp166 := (by rw [hkp167]; rfl); exact decide_eq_true (by omega)
                rw [hc177] at h176; clear hc177
                refine pk0 (v := pt N6 0) h176 rfl fun a178 h178 => ?_; clear h176
                refine pw h178 rfl (op_call (args := #[pt N6 0]) (R := fun res xw => res = .int .i64 (sumP (crS (wrAll (synS (wrAll s0D (l1.take i))) (l2.take k)) n).ps) ∧ DObj w.heap.size xw N6 (2 * (0 + i + (wrAll s0D (l1.take i)).ps.length + k) + 2 * (wrAll (synS (wrAll s0D (l1.take i))) (l2.take k)).ps.length) (crS (wrAll (synS (wrAll s0D (l1.take i))) (l2.take k)) n) ∧ ButD w.heap.size w150 xw) rfl rfl rfl (by kernel_rfl) (by kernel_rfl) (Try.call24 _ _) (tPending w150 hf152 (((wrAll_I (wrAll_I s0_I hok1 i).sync.1 hok2 k).crash n).hsb (by omega))) (by rintro e x ⟨rfl, h1, h2⟩; exact ⟨_, rfl, rfl, h1, h2⟩)) ?_; clear h178
                rintro _ w180 a179 ⟨rfl, hd181, hx182⟩ h179
                have hz184 := hx182.size
                have hB183 := (hbD hB156 hx182)
                have hz185 := hB183.size
                refine pk0 (v := .bool (sumP (crS (wrAll (synS (wrAll s0D (l1.take i))) (l2.take k)) n).ps == 0)) h179 rfl fun a186 h186 => ?_; clear h179
                refine pk0 (v := .bool (sumP (crS (wrAll (synS (wrAll s0D (l1.take i))) (l2.take k)) n).ps == 0)) h186 rfl fun a187 h187 => ?_; clear h186
                refine pk0 (v := .bool (sumP (crS (wrAll (synS (wrAll s0D (l1.take i))) (l2.take k)) n).ps == 0)) h187 rfl fun a188 h188 => ?_; clear h187
                have hc189 : (sumP (crS (wrAll (synS (wrAll s0D (l1.take i))) (l2.take k)) n).ps == 0) = true := by rfl
                rw [hc189] at h188; clear hc189
                refine pw h188 rfl (op_call (args := #[]) (R := fun res xw => res = .bool true ∧ Below w180.heap.size w180 xw) rfl rfl rfl (by kernel_rfl) (by kernel_rfl) (Try.call20 _ _) (awake11  w180 ) (by rintro e x ⟨rfl, hb192⟩; exact ⟨_, rfl, ⟨rfl, hb192⟩⟩)) ?_; clear h188
                rintro _ w191 a190 ⟨rfl, hb192⟩ h190
                have hz193 := hb192.size
                refine pk0 (v := .bool true) h190 rfl fun a194 h194 => ?_; clear h190
                refine pk0 (v := .bool true) h194 rfl fun a195 h195 => ?_; clear h194
                refine pl_nil ?_
                refine co_then ?_
                refine wp_ret ?_
                refine co_ret1 h195 rfl rfl ?_
                have hB196 := hb_call hB183 hb192
                exact ⟨rfl, hB196⟩
               ·
                rw [hc162] at h161
                have hp197 : ((q : Nat) : Int) < ((ys45.length : Nat) : Int) := of_decide_eq_true hc162
                clear hc162
                refine co_true h161 rfl ?_
                refine wp_skip ?_
                refine co_then ?_
                refine co_seq ?_
                refine wp_block ?_
                refine co_seq ?_
                refine co_reg ?_
                refine pk0 (v := pt N6 0) h161 rfl fun a198 h198 => ?_; clear h161
                refine pk0 (v := u46) h198 rfl fun a199 h199 => ?_; clear h198
                refine pk0 (v := .int .i64 ((q : Nat) : Int)) h199 rfl fun a200 h200 => ?_; clear h199
                obtain ⟨y201, hy201⟩ : ∃ z, ys45[q]? = some z := ⟨_, List.getElem?_eq_getElem (by first | omega | (simp; done) | (simp; omega))⟩
                have oky201 := (fun (z : Int) (_ : z ∈ ys45) => trivial) _ (List.mem_of_getElem? hy201)
                have hsa := safe_at (wrAll_I s0_I hok1 i) (wrAll_I (wrAll_I s0_I hok1 i).sync.1 hok2 k) n (((hK48).2 y201).1 (List.mem_of_getElem? hy201)); have hqa := sumQ_at (f := (sumK (keptL (mx0 n) (wrAll (synS (wrAll s0D (l1.take i))) (l2.take k)).ps))) hy201
                refine pk (v := pt (blkOf u46) (offOf u46 + q * 1)) h200 rfl (rn_index rfl rfl rfl Try.underlying37 Try.sizeOf3 (row_sl hf153 (intE_len .i64)) (by omega) (by first | omega | (simp; done) | (simp; omega))) fun a202 h202 => ?_; clear h200
                refine pk (v := .int .i64 y201) h202 rfl (rn_load1 rfl rfl Try.isAgg3 ((sl_at (row_sl hf153 (intE_len .i64)) hy201) 0 _ rfl)) fun a203 h203 => ?_; clear h202
                refine pw h203 rfl (op_call (args := #[pt N6 0, .int .i64 y201]) (R := fun res xw => ∃ sv : ByteArray, res = .string sv ∧ sv = datF (crS (wrAll (synS (wrAll s0D (l1.take i))) (l2.take k)) n).fm y201 ∧ DObj w.heap.size xw N6 (2 * (0 + i + (wrAll s0D (l1.take i)).ps.length + k) + 2 * (wrAll (synS (wrAll s0D (l1.take i))) (l2.take k)).ps.length) (crS (wrAll (synS (wrAll s0D (l1.take i))) (l2.take k)) n) ∧ ButD w.heap.size w150 xw) rfl rfl rfl (by kernel_rfl) (by kernel_rfl) (Try.call19 _ _) (tData w150 y201 hf152) (by rintro e x ⟨rfl, h1, h2⟩; exact ⟨_, rfl, _, rfl, rfl, h1, h2⟩)) ?_; clear h203
                rintro _ w205 a204 ⟨sv208, rfl, hsv209, hd206, hx207⟩ h204
                have hz211 := hx207.size
                have hB210 := (hbD hB156 hx207)
                have hz212 := hB210.size
                have hq213 : sv208.size = (datF (crS (wrAll (synS (wrAll s0D (l1.take i))) (l2.take k)) n).fm y201 : ByteArray).size := by rw [hsv209]
                refine pk0 (v := .string sv208) h204 rfl fun a214 h214 => ?_; clear h204
                refine pl_nil ?_
                refine co_then ?_
                refine co_seq ?_
                refine co_seq ?_
                refine co_reg ?_
                refine pk0 (v := .string sv208) h214 rfl fun a215 h215 => ?_; clear h214
                refine pk (v := .int .i64 ((sv208.size : Nat) : Int)) h215 rfl (rn_lenStr rfl rfl Try.underlying9) fun a216 h216 => ?_; clear h215
                refine pk0 (v := u1) h216 rfl fun a217 h217 => ?_; clear h216
                refine pk0 (v := .int .i64 ((q : Nat) : Int)) h217 rfl fun a218 h218 => ?_; clear h217
                have hr220 := rowD hf154 (by unfold offD; decide) hx207
                obtain ⟨y219, hy219⟩ : ∃ z, ((ys45.take j).map (datF (synS (wrAll s0D (l1.take i))).fm))[q]? = some z := ⟨_, List.getElem?_eq_getElem (by first | omega | (simp; done) | (simp; omega))⟩
                have oky219 := (fun (z : ByteArray) (_ : z ∈ (ys45.take j).map (datF (synS (wrAll s0D (l1.take i))).fm)) => trivial) _ (List.mem_of_getElem? hy219)
                have hmy219 := map_get hy201 (by omega) hy219
                have hzy219 : y219.size = (datF (synS (wrAll s0D (l1.take i))).fm y201).size := by rw [hmy219]
                refine pk (v := pt (blkOf u1) (offOf u1 + q * 1)) h218 rfl (rn_index rfl rfl rfl Try.underlying39 Try.sizeOf9 (row_sl hr220 strE_lenD) (by omega) (by first | omega | (simp; done) | (simp; omega))) fun a221 h221 => ?_; clear h218
                refine pk (v := .string y219) h221 rfl (rn_load1 rfl rfl Try.isAgg9 ((sl_at (row_sl hr220 strE_lenD) hy219) 0 _ rfl)) fun a222 h222 => ?_; clear h221
                refine pk (v := .int .i64 ((y219.size : Nat) : Int)) h222 rfl (rn_lenStr rfl rfl Try.underlying9) fun a223 h223 => ?_; clear h222
                refine pk0 (v := .bool (decide (((sv208.size : Nat) : Int) < ((y219.size : Nat) : Int)))) h223 rfl fun a224 h224 => ?_; clear h223
                refine pk0 (v := .bool (decide (((sv208.size : Nat) : Int) < ((y219.size : Nat) : Int)))) h224 rfl fun a225 h225 => ?_; clear h224
                have hc226 : (decide (((sv208.size : Nat) : Int) < ((y219.size : Nat) : Int))) = false := decide_eq_false (by omega)
                rw [hc226] at h225; clear hc226
                refine pk0 (v := .string sv208) h225 rfl fun a227 h227 => ?_; clear h225
                refine pk (v := .int .i64 ((sv208.size : Nat) : Int)) h227 rfl (rn_lenStr rfl rfl Try.underlying9) fun a228 h228 => ?_; clear h227
                refine pk0 (v := u2) h228 rfl fun a229 h229 => ?_; clear h228
                refine pk0 (v := .int .i64 ((q : Nat) : Int)) h229 rfl fun a230 h230 => ?_; clear h229
                have hr232 := rowD hf155 (by unfold offD; decide) hx207
                obtain ⟨y231, hy231⟩ : ∃ z, ((ys45.take jj).map (datF (wrAll (synS (wrAll s0D (l1.take i))) (l2.take k)).fm))[q]? = some z := ⟨_, List.getElem?_eq_getElem (by first | omega | (simp; done) | (simp; omega))⟩
                have oky231 := (fun (z : ByteArray) (_ : z ∈ (ys45.take jj).map (datF (wrAll (synS (wrAll s0D (l1.take i))) (l2.take k)).fm)) => trivial) _ (List.mem_of_getElem? hy231)
                have hmy231 := map_get hy201 (by omega) hy231
                have hzy231 : y231.size = (datF (wrAll (synS (wrAll s0D (l1.take i))) (l2.take k)).fm y201).size := by rw [hmy231]
                refine pk (v := pt (blkOf u2) (offOf u2 + q * 1)) h230 rfl (rn_index rfl rfl rfl Try.underlying39 Try.sizeOf9 (row_sl hr232 strE_lenD) (by omega) (by first | omega | (simp; done) | (simp; omega))) fun a233 h233 => ?_; clear h230
                refine pk (v := .string y231) h233 rfl (rn_load1 rfl rfl Try.isAgg9 ((sl_at (row_sl hr232 strE_lenD) hy231) 0 _ rfl)) fun a234 h234 => ?_; clear h233
                refine pk (v := .int .i64 ((y231.size : Nat) : Int)) h234 rfl (rn_lenStr rfl rfl Try.underlying9) fun a235 h235 => ?_; clear h234
                refine pk0 (v := .bool (decide (((sv208.size : Nat) : Int) > ((y231.size : Nat) : Int)))) h235 rfl fun a236 h236 => ?_; clear h235
                refine pk0 (v := .bool (decide (((sv208.size : Nat) : Int) > ((y231.size : Nat) : Int)))) h236 rfl fun a237 h237 => ?_; clear h236
                refine pk0 (v := .bool (decide (((sv208.size : Nat) : Int) > ((y231.size : Nat) : Int)))) h237 rfl fun a238 h238 => ?_; clear h237
                have hc239 : (decide (((sv208.size : Nat) : Int) > ((y231.size : Nat) : Int))) = false := decide_eq_false (by omega)
                rw [hc239] at h238; clear hc239
                refine pk0 (v := .string sv208) h238 rfl fun a240 h240 => ?_; clear h238
                refine pk0 (v := u2) h240 rfl fun a241 h241 => ?_; clear h240
                refine pk0 (v := .int .i64 ((q : Nat) : Int)) h241 rfl fun a242 h242 => ?_; clear h241
                refine pk (v := pt (blkOf u2) (offOf u2 + q * 1)) h242 rfl (rn_index rfl rfl rfl Try.underlying39 Try.sizeOf9 (row_sl hr232 strE_lenD) (by omega) (by first | omega | (simp; done) | (simp; omega))) fun a243 h243 => ?_; clear h242
                refine pk (v := .string y231) h243 rfl (rn_load1 rfl rfl Try.isAgg9 ((sl_at (row_sl hr232 strE_lenD) hy231) 0 _ rfl)) fun a244 h244 => ?_; clear h243
                refine pk0 (v := .string sv208) h244 rfl fun a245 h245 => ?_; clear h244
                refine pk (v := .int .i64 ((sv208.size : Nat) : Int)) h245 rfl (rn_lenStr rfl rfl Try.underlying9) fun a246 h246 => ?_; clear h245
                refine pk (v := .string (y231.extract 0 sv208.size)) h246 rfl (rn_sliceStrTo (j := sv208.size) rfl rfl rfl Try.underlying9 (by omega) (by omega)) fun a247 h247 => ?_; clear h246
                refine pk0 (v := .bool (!(sv208.toList == (y231.extract 0 sv208.size : ByteArray).toList))) h247 rfl fun a248 h248 => ?_; clear h247
                refine pk0 (v := .bool (!(sv208.toList == (y231.extract 0 sv208.size : ByteArray).toList))) h248 rfl fun a249 h249 => ?_; clear h248
                refine pl_nil ?_
                refine co_then ?_
                have hc250 : (!(sv208.toList == (y231.extract 0 sv208.size : ByteArray).toList)) = false := by have hpx := hsa.2.2.2.1; rw [← hmy231, ← hsv209] at hpx; rw [← hpx]; simp
                rw [hc250] at h249; clear hc250
                refine co_false h249 rfl ?_
                refine wp_skip ?_
                refine co_then ?_
                refine co_reg ?_
                refine pk0 (v := .int .i64 (sumQ (sumK (keptL (mx0 n) (wrAll (synS (wrAll s0D (l1.take i))) (l2.take k)).ps)) (ys45.take q))) h249 rfl fun a251 h251 => ?_; clear h249
                refine pk0 (v := .string sv208) h251 rfl fun a252 h252 => ?_; clear h251
                refine pk (v := .int .i64 ((sv208.size : Nat) : Int)) h252 rfl (rn_lenStr rfl rfl Try.underlying9) fun a253 h253 => ?_; clear h252
                refine pk (v := .int .i64 ((sumQ (sumK (keptL (mx0 n) (wrAll (synS (wrAll s0D (l1.take i))) (l2.take k)).ps)) (ys45.take q)) + ((sv208.size : Nat) : Int))) h253 rfl (rn_arith rfl rfl rfl rfl rfl rfl (IntWalk.i64_in _ (by omega))) fun a254 h254 => ?_; clear h253
                refine pk0 (v := u1) h254 rfl fun a255 h255 => ?_; clear h254
                refine pk0 (v := .int .i64 ((q : Nat) : Int)) h255 rfl fun a256 h256 => ?_; clear h255
                refine pk (v := pt (blkOf u1) (offOf u1 + q * 1)) h256 rfl (rn_index rfl rfl rfl Try.underlying39 Try.sizeOf9 (row_sl hr220 strE_lenD) (by omega) (by first | omega | (simp; done) | (simp; omega))) fun a257 h257 => ?_; clear h256
                refine pk (v := .string y219) h257 rfl (rn_load1 rfl rfl Try.isAgg9 ((sl_at (row_sl hr220 strE_lenD) hy219) 0 _ rfl)) fun a258 h258 => ?_; clear h257
                refine pk (v := .int .i64 ((y219.size : Nat) : Int)) h258 rfl (rn_lenStr rfl rfl Try.underlying9) fun a259 h259 => ?_; clear h258
                refine pk (v := .int .i64 (((sumQ (sumK (keptL (mx0 n) (wrAll (synS (wrAll s0D (l1.take i))) (l2.take k)).ps)) (ys45.take q)) + ((sv208.size : Nat) : Int)) - ((y219.size : Nat) : Int))) h259 rfl (rn_arith rfl rfl rfl rfl rfl rfl (IntWalk.i64_in _ (by omega))) fun a260 h260 => ?_; clear h259
                refine pk0 (v := .int .i64 (((sumQ (sumK (keptL (mx0 n) (wrAll (synS (wrAll s0D (l1.take i))) (l2.take k)).ps)) (ys45.take q)) + ((sv208.size : Nat) : Int)) - ((y219.size : Nat) : Int))) h260 rfl fun a261 h261 => ?_; clear h260
                refine pl_nil ?_
                refine co_blockN ?_
                refine co_then ?_
                refine co_reg ?_
                refine pk0 (v := .int .i64 ((q : Nat) : Int)) h261 rfl fun a262 h262 => ?_; clear h261
                refine pk (v := .int .i64 ((q + 1 : Nat) : Int)) h262 rfl (rn_arith' rfl rfl rfl rfl rfl rfl (IntWalk.i64_in _ (by omega)) (by omega)) fun a263 h263 => ?_; clear h262
                refine pk0 (v := .int .i64 ((q + 1 : Nat) : Int)) h263 rfl fun a264 h264 => ?_; clear h263
                refine pl_nil ?_
                refine co_then ?_
                refine ⟨(ys45.length - (q + 1)), by omega, ?_⟩
                have hr265 := rowD hf153 (by unfold offD; decide) hx207
                exact ⟨q + 1, h264.sub ⟨rfl, rfl, rfl, rfl, rfl, rfl, (slot_eq rfl (congrArg (Value.int .i64) (by first | rfl | (rw [hqa]; omega)))), rfl, trivial⟩, rfl, by omega, (dk_eq hd206 (rfl) (by omega)), hr265, hr220, hr232, hB210⟩
            ·
             rw [hc118] at h117
             have hp266 : ((jj : Nat) : Int) < ((ys45.length : Nat) : Int) := of_decide_eq_true hc118
             clear hc118
             refine co_true h117 rfl ?_
             refine wp_skip ?_
             refine co_then ?_
             refine co_seq ?_
             refine wp_block ?_
             refine co_reg ?_
             refine pk0 (v := u2) h117 rfl fun a267 h267 => ?_; clear h117
             refine pk0 (v := pt N6 0) h267 rfl fun a268 h268 => ?_; clear h267
             refine pk0 (v := u46) h268 rfl fun a269 h269 => ?_; clear h268
             refine pk0 (v := .int .i64 ((jj : Nat) : Int)) h269 rfl fun a270 h270 => ?_; clear h269
             obtain ⟨y271, hy271⟩ : ∃ z, ys45[jj]? = some z := ⟨_, List.getElem?_eq_getElem (by first | omega | (simp; done) | (simp; omega))⟩
             refine pk (v := pt (blkOf u46) (offOf u46 + jj * 1)) h270 rfl (rn_index rfl rfl rfl Try.underlying37 Try.sizeOf3 (row_sl hf108 (intE_len .i64)) (by omega) (by first | omega | (simp; done) | (simp; omega))) fun a272 h272 => ?_; clear h270
             refine pk (v := .int .i64 y271) h272 rfl (rn_load1 rfl rfl Try.isAgg3 ((sl_at (row_sl hf108 (intE_len .i64)) hy271) 0 _ rfl)) fun a273 h273 => ?_; clear h272
             refine pw h273 rfl (op_call (args := #[pt N6 0, .int .i64 y271]) (R := fun res xw => ∃ sv : ByteArray, res = .string sv ∧ sv = datF (wrAll (synS (wrAll s0D (l1.take i))) (l2.take k)).fm y271 ∧ DObj w.heap.size xw N6 (0 + i + (wrAll s0D (l1.take i)).ps.length + k) (wrAll (synS (wrAll s0D (l1.take i))) (l2.take k)) ∧ ButD w.heap.size w104 xw) rfl rfl rfl (by kernel_rfl) (by kernel_rfl) (Try.call19 _ _) (tData w104 y271 hf107) (by rintro e x ⟨rfl, h1, h2⟩; exact ⟨_, rfl, _, rfl, rfl, h1, h2⟩)) ?_; clear h273
             rintro _ w275 a274 ⟨sv278, rfl, hsv279, hd276, hx277⟩ h274
             have hz281 := hx277.size
             have hB280 := (hbD hB111 hx277)
             have hz282 := hB280.size
             have hq283 : sv278.size = (datF (wrAll (synS (wrAll s0D (l1.take i))) (l2.take k)).fm y271 : ByteArray).size := by rw [hsv279]
             refine pw h274 rfl (op_new (v := fun N => .slice (some ⟨N, 0, none⟩) 1 1) (T := 9) (cs := #[.string sv278]) (by kernel_rfl) (by kernel_rfl) (by kernel_rfl)) ?_; clear h274
             rintro _ w285 a284 ⟨N286, rfl, hN289, hz290, hk288, hg287⟩ h284
             have hr292 := rowD hf108 (by unfold offD; decide) hx277
             have ha291 := row_fresh hr292 hN289
             have hr294 := rowD hf109 (by unfold offD; decide) hx277
             have ha293 := row_fresh hr294 hN289
             have hr296 := rowD hf110 (by unfold offD; decide) hx277
             have ha295 := row_fresh hr296 hN289
             have hz297 := hg287.size
             try dsimp only at h284
             have hr304 := row_kept_new hr296 hg287
             refine pw h284 rfl (op_append rfl bs99 9 (z := .string (⟨#[]⟩)) (size := 1) (bytes := 16) Try.underlying39 (by kernel_rfl) rfl rfl rfl hr304 rfl hk288 rfl (by kernel_rfl) (by first | omega | (simp only [List.length_nil, List.length_append, List.length_cons, List.length_take, List.length_drop]; omega)) (by first | omega | (simp only [List.length_nil, List.length_append, List.length_cons, List.length_take, List.length_drop]; omega)) (by omega)) ?_; clear h284
             rintro v300 w299 a298 ⟨hr301, hg302⟩ h298
             have hr301' : w299.ownsRow bs99 9 1 v300 (((ys45.take jj).map (datF (wrAll (synS (wrAll s0D (l1.take i))) (l2.take k)).fm) ++ [sv278]).length) (((ys45.take jj).map (datF (wrAll (synS (wrAll s0D (l1.take i))) (l2.take k)).fm) ++ [sv278]).flatMap strE) := row_push (y := sv278) hr301 rfl rfl; clear hr301
             have hz305 := hg302.size
             refine pk0 (v := v300) h298 rfl fun a306 h306 => ?_; clear h298
             refine pl_nil ?_
             refine co_blockN ?_
             refine co_then ?_
             refine co_reg ?_
             refine pk0 (v := .int .i64 ((jj : Nat) : Int)) h306 rfl fun a307 h307 => ?_; clear h306
             refine pk (v := .int .i64 ((jj + 1 : Nat) : Int)) h307 rfl (rn_arith' rfl rfl rfl rfl rfl rfl (IntWalk.i64_in _ (by omega)) (by omega)) fun a308 h308 => ?_; clear h307
             refine pk0 (v := .int .i64 ((jj + 1 : Nat) : Int)) h308 rfl fun a309 h309 => ?_; clear h308
             refine pl_nil ?_
             refine co_then ?_
             refine ⟨(ys45.length - (jj + 1)), by omega, ?_⟩
             have hd310 := hd276.new hg287
             have hd311 := hd310.row hr304 (by unfold offD; decide) hg302
             have hr312 := row_kept_new hr292 hg287
             have hr313 := row_kept_row hr312 hr304 hg302 (by decide)
             have hr314 := row_kept_new hr294 hg287
             have hr315 := row_kept_ap hr314 hr304 hu100 hg302
             have hB316 := hb_new hB280 hg287
             have hB317 := hb_row hB316 hr304 (by omega) hg302
             exact ⟨jj + 1, v300, h309.sub ⟨rfl, rfl, rfl, rfl, rfl, rfl, trivial⟩, rfl, by omega, by omega, (dk_eq hd311 (rfl) (by omega)), hr313, hr315, (row_eq hr301' (by first | rfl | (rw [hsv279]; exact map_at (by assumption)))), hB317⟩
         ·
          rw [hc92] at h91
          have hp318 : ((k : Nat) : Int) < ((l2.length : Nat) : Int) := of_decide_eq_true hc92
          clear hc92
          refine pk0 (v := .int .i64 ((k : Nat) : Int)) h91 rfl fun a319 h319 => ?_; clear h91
          refine pk0 (v := .bool (decide (((k : Nat) : Int) < 30))) h319 rfl fun a320 h320 => ?_; clear h319
          refine pk0 (v := .bool (decide (((k : Nat) : Int) < 30))) h320 rfl fun a321 h321 => ?_; clear h320
          refine pl_nil ?_
          refine co_then ?_
          cases hc322 : (decide (((k : Nat) : Int) < 30))
          ·
           rw [hc322] at h321
           have hp323 : ¬ (((k : Nat) : Int) < 30) := of_decide_eq_false hc322
           clear hc322
           refine co_false h321 rfl ?_
           refine wp_exit ?_
           refine co_thenX ?_
           refine co_thenX ?_
           refine co_blockX ?_
           refine co_then ?_
           refine co_seq ?_
           refine co_reg ?_
           refine pk0 (v := .slice none 0 0) h321 rfl fun a324 h324 => ?_; clear h321
           refine pl_nil ?_
           refine co_then ?_
           refine co_seq ?_
           refine co_seq ?_
           refine co_reg ?_
           refine pk0 (v := .int .i64 0) h324 rfl fun a325 h325 => ?_; clear h324
           refine pl_nil ?_
           refine co_then ?_
           refine wp_block ?_
           obtain ⟨bs326, hb_bs326⟩ : ∃ b, b = w79.heap.size := ⟨_, rfl⟩
           have hu327 : ∀ k, Value.ownBlock u1 = some k → k < bs326 := fun k hk => by have := (hf84.lt k hk).2; omega
           have h328 : Slots 168 [(2, .int .i64 n), (7, pt N6 0), (9, u46), (10, u1), (13, .slice none 0 0), (14, .int .i64 0)] _ := h325.sub ⟨rfl, rfl, rfl, rfl, rfl, rfl, trivial⟩; clear h325
           refine co_loop (fun mm a x => ∃ (jj : Nat) (u2 : Value), Slots 168 [(2, .int .i64 n), (7, pt N6 0), (9, u46), (10, u1), (13, u2), (14, .int .i64 ((jj : Nat) : Int))] a ∧ mm = ys45.length - jj ∧ (jj ≤ ys45.length) ∧ (bs326 ≤ x.heap.size) ∧ DObj w.heap.size x N6 (0 + i + (wrAll s0D (l1.take i)).ps.length + k) (wrAll (synS (wrAll s0D (l1.take i))) (l2.take k)) ∧ x.ownsRow w33.heap.size 3 1 u46 ys45.length (ys45.flatMap (intE .i64)) ∧ x.ownsRow w.heap.size 9 1 u1 ((ys45.take j).map (datF (synS (wrAll s0D (l1.take i))).fm)).length (((ys45.take j).map (datF (synS (wrAll s0D (l1.take i))).fm)).flatMap strE) ∧ x.ownsRow bs326 9 1 u2 ((ys45.take jj).map (datF (wrAll (synS (wrAll s0D (l1.take i))) (l2.take k)).fm)).length (((ys45.take jj).map (datF (wrAll (synS (wrAll s0D (l1.take i))) (l2.take k)).fm)).flatMap strE) ∧ Below w.heap.size w x) (ys45.length - 0) ?_ ?_
           · exact ⟨0, (.slice none 0 0), h328.sub ⟨rfl, rfl, rfl, rfl, rfl, (slot_eq rfl (congrArg (Value.int .i64) (by first | rfl | omega))), trivial⟩, rfl, by omega, by omega, (dk_eq hf82 (rfl) (by omega)), hf83, hf84, (row_nilL _ _ _ _ _), hB85⟩
           · rintro k329 a330 w331 ⟨jj, u2, h330, rfl, hi332, hi333, hf334, hf335, hf336, hf337, hB338⟩
             have hz339 := hB338.size
             have hml340 : ((ys45.take jj).map (datF (wrAll (synS (wrAll s0D (l1.take i))) (l2.take k)).fm)).length = jj := by rw [List.length_map, List.length_take]; omega
             refine co_seq ?_
             refine co_seq ?_
             refine co_reg ?_
             refine pk0 (v := .int .i64 ((jj : Nat) : Int)) h330 rfl fun a341 h341 => ?_; clear h330
             refine pk0 (v := u46) h341 rfl fun a342 h342 => ?_; clear h341
             refine pk (v := .int .i64 ((ys45.length : Nat) : Int)) h342 rfl (rn_lenOwn rfl rfl Try.underlying37 hf335) fun a343 h343 => ?_; clear h342
             refine pk0 (v := .bool (decide (((jj : Nat) : Int) < ((ys45.length : Nat) : Int)))) h343 rfl fun a344 h344 => ?_; clear h343
             refine pl_nil ?_
             refine co_then ?_
             cases hc345 : (decide (((jj : Nat) : Int) < ((ys45.length : Nat) : Int)))
             ·
              rw [hc345] at h344
              have hp346 : ¬ (((jj : Nat) : Int) < ((ys45.length : Nat) : Int)) := of_decide_eq_false hc345
              clear hc345
              refine co_false h344 rfl ?_
              refine wp_exit ?_
              refine co_thenX ?_
              refine co_thenX ?_
              refine co_blockX ?_
              refine co_then ?_
              refine co_seq ?_
              refine co_reg ?_
              refine pk0 (v := pt N6 0) h344 rfl fun a347 h347 => ?_; clear h344
              refine pw h347 rfl (op_call (args := #[pt N6 0]) (R := fun res xw => res = .int .i64 (sumP (wrAll (synS (wrAll s0D (l1.take i))) (l2.take k)).ps) ∧ DObj w.heap.size xw N6 (0 + i + (wrAll s0D (l1.take i)).ps.length + k) (wrAll (synS (wrAll s0D (l1.take i))) (l2.take k)) ∧ ButD w.heap.size w331 xw) rfl rfl rfl (by kernel_rfl) (by kernel_rfl) (Try.call24 _ _) (tPending w331 hf334 ((wrAll_I (wrAll_I s0_I hok1 i).sync.1 hok2 k).hsb (by omega))) (by rintro e x ⟨rfl, h1, h2⟩; exact ⟨_, rfl, rfl, h1, h2⟩)) ?_; clear h347
              rintro _ w349 a348 ⟨rfl, hd350, hx351⟩ h348
              have hz353 := hx351.size
              have hB352 := (hbD hB338 hx351)
              have hz354 := hB352.size
              refine pk0 (v := .int .i64 (sumP (wrAll (synS (wrAll s0D (l1.take i))) (l2.take k)).ps)) h348 rfl fun a355 h355 => ?_; clear h348
              refine pl_nil ?_
              refine co_then ?_
              refine co_seq ?_
              refine co_reg ?_
              refine pk0 (v := pt N6 0) h355 rfl fun a356 h356 => ?_; clear h355
              refine pk0 (v := .int .i64 n) h356 rfl fun a357 h357 => ?_; clear h356
              have hpl362 := (wrAll_I (wrAll_I s0_I hok1 i).sync.1 hok2 k).pl
              refine pw h357 rfl (op_call (args := #[pt N6 0, .int .i64 n]) (R := fun res xw => res = .tuple #[] ∧ DObj w.heap.size xw N6 (2 * (0 + i + (wrAll s0D (l1.take i)).ps.length + k) + 2 * (wrAll (synS (wrAll s0D (l1.take i))) (l2.take k)).ps.length) (crS (wrAll (synS (wrAll s0D (l1.take i))) (l2.take k)) n) ∧ ButD w.heap.size w349 xw) rfl rfl rfl (by kernel_rfl) (by kernel_rfl) (Try.call25 _ _) (tCrash w349 n hd350 (by omega) ((wrAll_I (wrAll_I s0_I hok1 i).sync.1 hok2 k).hpl (by omega)) (by rw [wrAll_boots]; show 0 ≤ (wrAll s0D _).boots ∧ (wrAll s0D _).boots ≤ _; rw [wrAll_boots]; decide) hni ((wrAll_I (wrAll_I s0_I hok1 i).sync.1 hok2 k).hcr (by omega) hni) (wrAll_I (wrAll_I s0_I hok1 i).sync.1 hok2 k).hfin) (by rintro e x ⟨rfl, h1, h2⟩; exact ⟨_, rfl, rfl, h1, h2⟩)) ?_; clear h357
              rintro _ w359 a358 ⟨rfl, hd360, hx361⟩ h358
              have hz364 := hx361.size
              have hB363 := (hbD hB352 hx361)
              have hz365 := hB363.size
              refine pl_nil ?_
              refine co_then ?_
              refine co_seq ?_
              refine co_reg ?_
              refine pk0 (v := .int .i64 0) h358 rfl fun a366 h366 => ?_; clear h358
              refine pl_nil ?_
              refine co_then ?_
              refine co_seq ?_
              refine co_seq ?_
              refine co_reg ?_
              refine pk0 (v := .int .i64 0) h366 rfl fun a367 h367 => ?_; clear h366
              refine pl_nil ?_
              refine co_then ?_
              refine wp_block ?_
              have h368 : Slots 168 [(2, .int .i64 n), (7, pt N6 0), (9, u46), (10, u1), (13, u2), (15, .int .i64 (sumP (wrAll (synS (wrAll s0D (l1.take i))) (l2.take k)).ps)), (16, .int .i64 0), (17, .int .i64 0)] _ := h367.sub ⟨rfl, rfl, rfl, rfl, rfl, rfl, rfl, rfl, trivial⟩; clear h367
              refine co_loop (fun mm a x => ∃ (q : Nat), Slots 168 [(2, .int .i64 n), (7, pt N6 0), (9, u46), (10, u1), (13, u2), (15, .int .i64 (sumP (wrAll (synS (wrAll s0D (l1.take i))) (l2.take k)).ps)), (16, .int .i64 (sumQ (sumK (keptL (mx0 n) (wrAll (synS (wrAll s0D (l1.take i))) (l2.take k)).ps)) (ys45.take q))), (17, .int .i64 ((q : Nat) : Int))] a ∧ mm = ys45.length - q ∧ (q ≤ ys45.length) ∧ DObj w.heap.size x N6 (2 * (0 + i + (wrAll s0D (l1.take i)).ps.length + k) + 2 * (wrAll (synS (wrAll s0D (l1.take i))) (l2.take k)).ps.length) (crS (wrAll (synS (wrAll s0D (l1.take i))) (l2.take k)) n) ∧ x.ownsRow w33.heap.size 3 1 u46 ys45.length (ys45.flatMap (intE .i64)) ∧ x.ownsRow w.heap.size 9 1 u1 ((ys45.take j).map (datF (synS (wrAll s0D (l1.take i))).fm)).length (((ys45.take j).map (datF (synS (wrAll s0D (l1.take i))).fm)).flatMap strE) ∧ x.ownsRow bs326 9 1 u2 ((ys45.take jj).map (datF (wrAll (synS (wrAll s0D (l1.take i))) (l2.take k)).fm)).length (((ys45.take jj).map (datF (wrAll (synS (wrAll s0D (l1.take i))) (l2.take k)).fm)).flatMap strE) ∧ Below w.heap.size w x) (ys45.length - 0) ?_ ?_
              have hr369 := rowD hf335 (by unfold offD; decide) hx351
              have hr370 := rowD hr369 (by unfold offD; decide) hx361
              have hr371 := rowD hf336 (by unfold offD; decide) hx351
              have hr372 := rowD hr371 (by unfold offD; decide) hx361
              have hr373 := rowD hf337 (by unfold offD; decide) hx351
              have hr374 := rowD hr373 (by unfold offD; decide) hx361
              · exact ⟨0, h368.sub ⟨rfl, rfl, rfl, rfl, rfl, rfl, (slot_eq rfl (congrArg (Value.int .i64) (by first | rfl | (rw [hqa]; omega)))), (slot_eq rfl (congrArg (Value.int .i64) (by first | rfl | omega))), trivial⟩, rfl, by omega, (dk_eq hd360 (rfl) (by omega)), hr370, hr372, hr374, hB363⟩
              · rintro k375 a376 w377 ⟨q, h376, rfl, hi378, hf379, hf380, hf381, hf382, hB383⟩
                have hz384 := hB383.size
                have hsq := sumQ_takes hK48.1 (wrAll_I (wrAll_I s0_I hok1 i).sync.1 hok2 k) n q; have hsq1 := sumQ_takes hK48.1 (wrAll_I (wrAll_I s0_I hok1 i).sync.1 hok2 k) n (q + 1)
                have hmx0 : mx0 n ≤ 9223372036854775807 := by unfold mx0; split <;> omega
                refine co_seq ?_
                refine co_seq ?_
                refine co_reg ?_
                refine pk0 (v := .int .i64 ((q : Nat) : Int)) h376 rfl fun a385 h385 => ?_; clear h376
                refine pk0 (v := u46) h385 rfl fun a386 h386 => ?_; clear h385
                refine pk (v := .int .i64 ((ys45.length : Nat) : Int)) h386 rfl (rn_lenOwn rfl rfl Try.underlying37 hf380) fun a387 h387 => ?_; clear h386
                refine pk0 (v := .bool (decide (((q : Nat) : Int) < ((ys45.length : Nat) : Int)))) h387 rfl fun a388 h388 => ?_; clear h387
                refine pl_nil ?_
                refine co_then ?_
                cases hc389 : (decide (((q : Nat) : Int) < ((ys45.length : Nat) : Int)))
                ·
                 rw [hc389] at h388
                 have hp390 : ¬ (((q : Nat) : Int) < ((ys45.length : Nat) : Int)) := of_decide_eq_false hc389
                 clear hc389
                 refine co_false h388 rfl ?_
                 refine wp_exit ?_
                 refine co_thenX ?_
                 refine co_thenX ?_
                 refine co_blockX ?_
                 refine co_then ?_
                 refine co_seq ?_
                 refine co_reg ?_
                 refine pk0 (v := .int .i64 (sumQ (sumK (keptL (mx0 n) (wrAll (synS (wrAll s0D (l1.take i))) (l2.take k)).ps)) (ys45.take q))) h388 rfl fun a391 h391 => ?_; clear h388
                 refine pk0 (v := .int .i64 n) h391 rfl fun a392 h392 => ?_; clear h391
                 obtain ⟨kp393, hkp394⟩ : ∃ z : Int, z = (if n < 0 then 0 else n) := ⟨_, rfl⟩
                 have hq395 : kp393 ≥ n ∧ kp393 ≥ 0 ∧ (kp393 = n ∨ kp393 = 0) := by rw [hkp394]; split <;> omega
                 refine pk (v := .int .i64 kp393) h392 rfl (by rw [hkp394]; kernel_rfl) fun a396 h396 => ?_; clear h392
                 refine pk0 (v := .int .i64 (sumP (wrAll (synS (wrAll s0D (l1.take i))) (l2.take k)).ps)) h396 rfl fun a397 h397 => ?_; clear h396
                 obtain ⟨kp398, hkp399⟩ : ∃ z : Int, z = (if sumP (wrAll (synS (wrAll s0D (l1.take i))) (l2.take k)).ps < kp393 then sumP (wrAll (synS (wrAll s0D (l1.take i))) (l2.take k)).ps else kp393) := ⟨_, rfl⟩
                 have hq400 : kp398 ≤ kp393 ∧ kp398 ≤ sumP (wrAll (synS (wrAll s0D (l1.take i))) (l2.take k)).ps ∧ (kp398 = kp393 ∨ kp398 = sumP (wrAll (synS (wrAll s0D (l1.take i))) (l2.take k)).ps) := by rw [hkp399]; split <;> omega
                 refine pk (v := .int .i64 kp398) h397 rfl (by rw [hkp399]; kernel_rfl) fun a401 h401 => ?_; clear h397
                 refine pk0 (v := .bool (decide (sumQ (sumK (keptL (mx0 n) (wrAll (synS (wrAll s0D (l1.take i))) (l2.take k)).ps)) (ys45.take q) ≤ kp398))) h401 rfl fun a402 h402 => ?_; clear h401
                 refine pk0 (v := .bool (decide (sumQ (sumK (keptL (mx0 n) (wrAll (synS (wrAll s0D (l1.take i))) (l2.take k)).ps)) (ys45.take q) ≤ kp398))) h402 rfl fun a403 h403 => ?_; clear h402
                 have hc404 : (decide (sumQ (sumK (keptL (mx0 n) (wrAll (synS (wrAll s0D (l1.take i))) (l2.take k)).ps)) (ys45.take q) ≤ kp398)) = true := by have e : mx0 n = kp393 := (by rw [hkp394]; rfl); exact decide_eq_true (by omega)
                 rw [hc404] at h403; clear hc404
                 refine pk0 (v := pt N6 0) h403 rfl fun a405 h405 => ?_; clear h403
                 refine pw h405 rfl (op_call (args := #[pt N6 0]) (R := fun res xw => res = .int .i64 (sumP (crS (wrAll (synS (wrAll s0D (l1.take i))) (l2.take k)) n).ps) ∧ DObj w.heap.size xw N6 (2 * (0 + i + (wrAll s0D (l1.take i)).ps.length + k) + 2 * (wrAll (synS (wrAll s0D (l1.take i))) (l2.take k)).ps.length) (crS (wrAll (synS (wrAll s0D (l1.take i))) (l2.take k)) n) ∧ ButD w.heap.size w377 xw) rfl rfl rfl (by kernel_rfl) (by kernel_rfl) (Try.call24 _ _) (tPending w377 hf379 (((wrAll_I (wrAll_I s0_I hok1 i).sync.1 hok2 k).crash n).hsb (by omega))) (by rintro e x ⟨rfl, h1, h2⟩; exact ⟨_, rfl, rfl, h1, h2⟩)) ?_; clear h405
                 rintro _ w407 a406 ⟨rfl, hd408, hx409⟩ h406
                 have hz411 := hx409.size
                 have hB410 := (hbD hB383 hx409)
                 have hz412 := hB410.size
                 refine pk0 (v := .bool (sumP (crS (wrAll (synS (wrAll s0D (l1.take i))) (l2.take k)) n).ps == 0)) h406 rfl fun a413 h413 => ?_; clear h406
                 refine pk0 (v := .bool (sumP (crS (wrAll (synS (wrAll s0D (l1.take i))) (l2.take k)) n).ps == 0)) h413 rfl fun a414 h414 => ?_; clear h413
                 refine pk0 (v := .bool (sumP (crS (wrAll (synS (wrAll s0D (l1.take i))) (l2.take k)) n).ps == 0)) h414 rfl fun a415 h415 => ?_; clear h414
                 have hc416 : (sumP (crS (wrAll (synS (wrAll s0D (l1.take i))) (l2.take k)) n).ps == 0) = true := by rfl
                 rw [hc416] at h415; clear hc416
                 refine pw h415 rfl (op_call (args := #[]) (R := fun res xw => res = .bool true ∧ Below w407.heap.size w407 xw) rfl rfl rfl (by kernel_rfl) (by kernel_rfl) (Try.call20 _ _) (awake11  w407 ) (by rintro e x ⟨rfl, hb419⟩; exact ⟨_, rfl, ⟨rfl, hb419⟩⟩)) ?_; clear h415
                 rintro _ w418 a417 ⟨rfl, hb419⟩ h417
                 have hz420 := hb419.size
                 refine pk0 (v := .bool true) h417 rfl fun a421 h421 => ?_; clear h417
                 refine pk0 (v := .bool true) h421 rfl fun a422 h422 => ?_; clear h421
                 refine pl_nil ?_
                 refine co_then ?_
                 refine wp_ret ?_
                 refine co_ret1 h422 rfl rfl ?_
                 have hB423 := hb_call hB410 hb419
                 exact ⟨rfl, hB423⟩
                ·
                 rw [hc389] at h388
                 have hp424 : ((q : Nat) : Int) < ((ys45.length : Nat) : Int) := of_decide_eq_true hc389
                 clear hc389
                 refine co_true h388 rfl ?_
                 refine wp_skip ?_
                 refine co_then ?_
                 refine co_seq ?_
                 refine wp_block ?_
                 refine co_seq ?_
                 refine co_reg ?_
                 refine pk0 (v := pt N6 0) h388 rfl fun a425 h425 => ?_; clear h388
                 refine pk0 (v := u46) h425 rfl fun a426 h426 => ?_; clear h425
                 refine pk0 (v := .int .i64 ((q : Nat) : Int)) h426 rfl fun a427 h427 => ?_; clear h426
                 obtain ⟨y428, hy428⟩ : ∃ z, ys45[q]? = some z := ⟨_, List.getElem?_eq_getElem (by first | omega | (simp; done) | (simp; omega))⟩
                 have oky428 := (fun (z : Int) (_ : z ∈ ys45) => trivial) _ (List.mem_of_getElem? hy428)
                 have hsa := safe_at (wrAll_I s0_I hok1 i) (wrAll_I (wrAll_I s0_I hok1 i).sync.1 hok2 k) n (((hK48).2 y428).1 (List.mem_of_getElem? hy428)); have hqa := sumQ_at (f := (sumK (keptL (mx0 n) (wrAll (synS (wrAll s0D (l1.take i))) (l2.take k)).ps))) hy428
                 refine pk (v := pt (blkOf u46) (offOf u46 + q * 1)) h427 rfl (rn_index rfl rfl rfl Try.underlying37 Try.sizeOf3 (row_sl hf380 (intE_len .i64)) (by omega) (by first | omega | (simp; done) | (simp; omega))) fun a429 h429 => ?_; clear h427
                 refine pk (v := .int .i64 y428) h429 rfl (rn_load1 rfl rfl Try.isAgg3 ((sl_at (row_sl hf380 (intE_len .i64)) hy428) 0 _ rfl)) fun a430 h430 => ?_; clear h429
                 refine pw h430 rfl (op_call (args := #[pt N6 0, .int .i64 y428]) (R := fun res xw => ∃ sv : ByteArray, res = .string sv ∧ sv = datF (crS (wrAll (synS (wrAll s0D (l1.take i))) (l2.take k)) n).fm y428 ∧ DObj w.heap.size xw N6 (2 * (0 + i + (wrAll s0D (l1.take i)).ps.length + k) + 2 * (wrAll (synS (wrAll s0D (l1.take i))) (l2.take k)).ps.length) (crS (wrAll (synS (wrAll s0D (l1.take i))) (l2.take k)) n) ∧ ButD w.heap.size w377 xw) rfl rfl rfl (by kernel_rfl) (by kernel_rfl) (Try.call19 _ _) (tData w377 y428 hf379) (by rintro e x ⟨rfl, h1, h2⟩; exact ⟨_, rfl, _, rfl, rfl, h1, h2⟩)) ?_; clear h430
                 rintro _ w432 a431 ⟨sv435, rfl, hsv436, hd433, hx434⟩ h431
                 have hz438 := hx434.size
                 have hB437 := (hbD hB383 hx434)
                 have hz439 := hB437.size
                 have hq440 : sv435.size = (datF (crS (wrAll (synS (wrAll s0D (l1.take i))) (l2.take k)) n).fm y428 : ByteArray).size := by rw [hsv436]
                 refine pk0 (v := .string sv435) h431 rfl fun a441 h441 => ?_; clear h431
                 refine pl_nil ?_
                 refine co_then ?_
                 refine co_seq ?_
                 refine co_seq ?_
                 refine co_reg ?_
                 refine pk0 (v := .string sv435) h441 rfl fun a442 h442 => ?_; clear h441
                 refine pk (v := .int .i64 ((sv435.size : Nat) : Int)) h442 rfl (rn_lenStr rfl rfl Try.underlying9) fun a443 h443 => ?_; clear h442
                 refine pk0 (v := u1) h443 rfl fun a444 h444 => ?_; clear h443
                 refine pk0 (v := .int .i64 ((q : Nat) : Int)) h444 rfl fun a445 h445 => ?_; clear h444
                 have hr447 := rowD hf381 (by unfold offD; decide) hx434
                 obtain ⟨y446, hy446⟩ : ∃ z, ((ys45.take j).map (datF (synS (wrAll s0D (l1.take i))).fm))[q]? = some z := ⟨_, List.getElem?_eq_getElem (by first | omega | (simp; done) | (simp; omega))⟩
                 have oky446 := (fun (z : ByteArray) (_ : z ∈ (ys45.take j).map (datF (synS (wrAll s0D (l1.take i))).fm)) => trivial) _ (List.mem_of_getElem? hy446)
                 have hmy446 := map_get hy428 (by omega) hy446
                 have hzy446 : y446.size = (datF (synS (wrAll s0D (l1.take i))).fm y428).size := by rw [hmy446]
                 refine pk (v := pt (blkOf u1) (offOf u1 + q * 1)) h445 rfl (rn_index rfl rfl rfl Try.underlying39 Try.sizeOf9 (row_sl hr447 strE_lenD) (by omega) (by first | omega | (simp; done) | (simp; omega))) fun a448 h448 => ?_; clear h445
                 refine pk (v := .string y446) h448 rfl (rn_load1 rfl rfl Try.isAgg9 ((sl_at (row_sl hr447 strE_lenD) hy446) 0 _ rfl)) fun a449 h449 => ?_; clear h448
                 refine pk (v := .int .i64 ((y446.size : Nat) : Int)) h449 rfl (rn_lenStr rfl rfl Try.underlying9) fun a450 h450 => ?_; clear h449
                 refine pk0 (v := .bool (decide (((sv435.size : Nat) : Int) < ((y446.size : Nat) : Int)))) h450 rfl fun a451 h451 => ?_; clear h450
                 refine pk0 (v := .bool (decide (((sv435.size : Nat) : Int) < ((y446.size : Nat) : Int)))) h451 rfl fun a452 h452 => ?_; clear h451
                 have hc453 : (decide (((sv435.size : Nat) : Int) < ((y446.size : Nat) : Int))) = false := decide_eq_false (by omega)
                 rw [hc453] at h452; clear hc453
                 refine pk0 (v := .string sv435) h452 rfl fun a454 h454 => ?_; clear h452
                 refine pk (v := .int .i64 ((sv435.size : Nat) : Int)) h454 rfl (rn_lenStr rfl rfl Try.underlying9) fun a455 h455 => ?_; clear h454
                 refine pk0 (v := u2) h455 rfl fun a456 h456 => ?_; clear h455
                 refine pk0 (v := .int .i64 ((q : Nat) : Int)) h456 rfl fun a457 h457 => ?_; clear h456
                 have hr459 := rowD hf382 (by unfold offD; decide) hx434
                 obtain ⟨y458, hy458⟩ : ∃ z, ((ys45.take jj).map (datF (wrAll (synS (wrAll s0D (l1.take i))) (l2.take k)).fm))[q]? = some z := ⟨_, List.getElem?_eq_getElem (by first | omega | (simp; done) | (simp; omega))⟩
                 have oky458 := (fun (z : ByteArray) (_ : z ∈ (ys45.take jj).map (datF (wrAll (synS (wrAll s0D (l1.take i))) (l2.take k)).fm)) => trivial) _ (List.mem_of_getElem? hy458)
                 have hmy458 := map_get hy428 (by omega) hy458
                 have hzy458 : y458.size = (datF (wrAll (synS (wrAll s0D (l1.take i))) (l2.take k)).fm y428).size := by rw [hmy458]
                 refine pk (v := pt (blkOf u2) (offOf u2 + q * 1)) h457 rfl (rn_index rfl rfl rfl Try.underlying39 Try.sizeOf9 (row_sl hr459 strE_lenD) (by omega) (by first | omega | (simp; done) | (simp; omega))) fun a460 h460 => ?_; clear h457
                 refine pk (v := .string y458) h460 rfl (rn_load1 rfl rfl Try.isAgg9 ((sl_at (row_sl hr459 strE_lenD) hy458) 0 _ rfl)) fun a461 h461 => ?_; clear h460
                 refine pk (v := .int .i64 ((y458.size : Nat) : Int)) h461 rfl (rn_lenStr rfl rfl Try.underlying9) fun a462 h462 => ?_; clear h461
                 refine pk0 (v := .bool (decide (((sv435.size : Nat) : Int) > ((y458.size : Nat) : Int)))) h462 rfl fun a463 h463 => ?_; clear h462
                 refine pk0 (v := .bool (decide (((sv435.size : Nat) : Int) > ((y458.size : Nat) : Int)))) h463 rfl fun a464 h464 => ?_; clear h463
                 refine pk0 (v := .bool (decide (((sv435.size : Nat) : Int) > ((y458.size : Nat) : Int)))) h464 rfl fun a465 h465 => ?_; clear h464
                 have hc466 : (decide (((sv435.size : Nat) : Int) > ((y458.size : Nat) : Int))) = false := decide_eq_false (by omega)
                 rw [hc466] at h465; clear hc466
                 refine pk0 (v := .string sv435) h465 rfl fun a467 h467 => ?_; clear h465
                 refine pk0 (v := u2) h467 rfl fun a468 h468 => ?_; clear h467
                 refine pk0 (v := .int .i64 ((q : Nat) : Int)) h468 rfl fun a469 h469 => ?_; clear h468
                 refine pk (v := pt (blkOf u2) (offOf u2 + q * 1)) h469 rfl (rn_index rfl rfl rfl Try.underlying39 Try.sizeOf9 (row_sl hr459 strE_lenD) (by omega) (by first | omega | (simp; done) | (simp; omega))) fun a470 h470 => ?_; clear h469
                 refine pk (v := .string y458) h470 rfl (rn_load1 rfl rfl Try.isAgg9 ((sl_at (row_sl hr459 strE_lenD) hy458) 0 _ rfl)) fun a471 h471 => ?_; clear h470
                 refine pk0 (v := .string sv435) h471 rfl fun a472 h472 => ?_; clear h471
                 refine pk (v := .int .i64 ((sv435.size : Nat) : Int)) h472 rfl (rn_lenStr rfl rfl Try.underlying9) fun a473 h473 => ?_; clear h472
                 refine pk (v := .string (y458.extract 0 sv435.size)) h473 rfl (rn_sliceStrTo (j := sv435.size) rfl rfl rfl Try.underlying9 (by omega) (by omega)) fun a474 h474 => ?_; clear h473
                 refine pk0 (v := .bool (!(sv435.toList == (y458.extract 0 sv435.size : ByteArray).toList))) h474 rfl fun a475 h475 => ?_; clear h474
                 refine pk0 (v := .bool (!(sv435.toList == (y458.extract 0 sv435.size : ByteArray).toList))) h475 rfl fun a476 h476 => ?_; clear h475
                 refine pl_nil ?_
                 refine co_then ?_
                 have hc477 : (!(sv435.toList == (y458.extract 0 sv435.size : ByteArray).toList)) = false := by have hpx := hsa.2.2.2.1; rw [← hmy458, ← hsv436] at hpx; rw [← hpx]; simp
                 rw [hc477] at h476; clear hc477
                 refine co_false h476 rfl ?_
                 refine wp_skip ?_
                 refine co_then ?_
                 refine co_reg ?_
                 refine pk0 (v := .int .i64 (sumQ (sumK (keptL (mx0 n) (wrAll (synS (wrAll s0D (l1.take i))) (l2.take k)).ps)) (ys45.take q))) h476 rfl fun a478 h478 => ?_; clear h476
                 refine pk0 (v := .string sv435) h478 rfl fun a479 h479 => ?_; clear h478
                 refine pk (v := .int .i64 ((sv435.size : Nat) : Int)) h479 rfl (rn_lenStr rfl rfl Try.underlying9) fun a480 h480 => ?_; clear h479
                 refine pk (v := .int .i64 ((sumQ (sumK (keptL (mx0 n) (wrAll (synS (wrAll s0D (l1.take i))) (l2.take k)).ps)) (ys45.take q)) + ((sv435.size : Nat) : Int))) h480 rfl (rn_arith rfl rfl rfl rfl rfl rfl (IntWalk.i64_in _ (by omega))) fun a481 h481 => ?_; clear h480
                 refine pk0 (v := u1) h481 rfl fun a482 h482 => ?_; clear h481
                 refine pk0 (v := .int .i64 ((q : Nat) : Int)) h482 rfl fun a483 h483 => ?_; clear h482
                 refine pk (v := pt (blkOf u1) (offOf u1 + q * 1)) h483 rfl (rn_index rfl rfl rfl Try.underlying39 Try.sizeOf9 (row_sl hr447 strE_lenD) (by omega) (by first | omega | (simp; done) | (simp; omega))) fun a484 h484 => ?_; clear h483
                 refine pk (v := .string y446) h484 rfl (rn_load1 rfl rfl Try.isAgg9 ((sl_at (row_sl hr447 strE_lenD) hy446) 0 _ rfl)) fun a485 h485 => ?_; clear h484
                 refine pk (v := .int .i64 ((y446.size : Nat) : Int)) h485 rfl (rn_lenStr rfl rfl Try.underlying9) fun a486 h486 => ?_; clear h485
                 refine pk (v := .int .i64 (((sumQ (sumK (keptL (mx0 n) (wrAll (synS (wrAll s0D (l1.take i))) (l2.take k)).ps)) (ys45.take q)) + ((sv435.size : Nat) : Int)) - ((y446.size : Nat) : Int))) h486 rfl (rn_arith rfl rfl rfl rfl rfl rfl (IntWalk.i64_in _ (by omega))) fun a487 h487 => ?_; clear h486
                 refine pk0 (v := .int .i64 (((sumQ (sumK (keptL (mx0 n) (wrAll (synS (wrAll s0D (l1.take i))) (l2.take k)).ps)) (ys45.take q)) + ((sv435.size : Nat) : Int)) - ((y446.size : Nat) : Int))) h487 rfl fun a488 h488 => ?_; clear h487
                 refine pl_nil ?_
                 refine co_blockN ?_
                 refine co_then ?_
                 refine co_reg ?_
                 refine pk0 (v := .int .i64 ((q : Nat) : Int)) h488 rfl fun a489 h489 => ?_; clear h488
                 refine pk (v := .int .i64 ((q + 1 : Nat) : Int)) h489 rfl (rn_arith' rfl rfl rfl rfl rfl rfl (IntWalk.i64_in _ (by omega)) (by omega)) fun a490 h490 => ?_; clear h489
                 refine pk0 (v := .int .i64 ((q + 1 : Nat) : Int)) h490 rfl fun a491 h491 => ?_; clear h490
                 refine pl_nil ?_
                 refine co_then ?_
                 refine ⟨(ys45.length - (q + 1)), by omega, ?_⟩
                 have hr492 := rowD hf380 (by unfold offD; decide) hx434
                 exact ⟨q + 1, h491.sub ⟨rfl, rfl, rfl, rfl, rfl, rfl, (slot_eq rfl (congrArg (Value.int .i64) (by first | rfl | (rw [hqa]; omega)))), rfl, trivial⟩, rfl, by omega, (dk_eq hd433 (rfl) (by omega)), hr492, hr447, hr459, hB437⟩
             ·
              rw [hc345] at h344
              have hp493 : ((jj : Nat) : Int) < ((ys45.length : Nat) : Int) := of_decide_eq_true hc345
              clear hc345
              refine co_true h344 rfl ?_
              refine wp_skip ?_
              refine co_then ?_
              refine co_seq ?_
              refine wp_block ?_
              refine co_reg ?_
              refine pk0 (v := u2) h344 rfl fun a494 h494 => ?_; clear h344
              refine pk0 (v := pt N6 0) h494 rfl fun a495 h495 => ?_; clear h494
              refine pk0 (v := u46) h495 rfl fun a496 h496 => ?_; clear h495
              refine pk0 (v := .int .i64 ((jj : Nat) : Int)) h496 rfl fun a497 h497 => ?_; clear h496
              obtain ⟨y498, hy498⟩ : ∃ z, ys45[jj]? = some z := ⟨_, List.getElem?_eq_getElem (by first | omega | (simp; done) | (simp; omega))⟩
              refine pk (v := pt (blkOf u46) (offOf u46 + jj * 1)) h497 rfl (rn_index rfl rfl rfl Try.underlying37 Try.sizeOf3 (row_sl hf335 (intE_len .i64)) (by omega) (by first | omega | (simp; done) | (simp; omega))) fun a499 h499 => ?_; clear h497
              refine pk (v := .int .i64 y498) h499 rfl (rn_load1 rfl rfl Try.isAgg3 ((sl_at (row_sl hf335 (intE_len .i64)) hy498) 0 _ rfl)) fun a500 h500 => ?_; clear h499
              refine pw h500 rfl (op_call (args := #[pt N6 0, .int .i64 y498]) (R := fun res xw => ∃ sv : ByteArray, res = .string sv ∧ sv = datF (wrAll (synS (wrAll s0D (l1.take i))) (l2.take k)).fm y498 ∧ DObj w.heap.size xw N6 (0 + i + (wrAll s0D (l1.take i)).ps.length + k) (wrAll (synS (wrAll s0D (l1.take i))) (l2.take k)) ∧ ButD w.heap.size w331 xw) rfl rfl rfl (by kernel_rfl) (by kernel_rfl) (Try.call19 _ _) (tData w331 y498 hf334) (by rintro e x ⟨rfl, h1, h2⟩; exact ⟨_, rfl, _, rfl, rfl, h1, h2⟩)) ?_; clear h500
              rintro _ w502 a501 ⟨sv505, rfl, hsv506, hd503, hx504⟩ h501
              have hz508 := hx504.size
              have hB507 := (hbD hB338 hx504)
              have hz509 := hB507.size
              have hq510 : sv505.size = (datF (wrAll (synS (wrAll s0D (l1.take i))) (l2.take k)).fm y498 : ByteArray).size := by rw [hsv506]
              refine pw h501 rfl (op_new (v := fun N => .slice (some ⟨N, 0, none⟩) 1 1) (T := 9) (cs := #[.string sv505]) (by kernel_rfl) (by kernel_rfl) (by kernel_rfl)) ?_; clear h501
              rintro _ w512 a511 ⟨N513, rfl, hN516, hz517, hk515, hg514⟩ h511
              have hr519 := rowD hf335 (by unfold offD; decide) hx504
              have ha518 := row_fresh hr519 hN516
              have hr521 := rowD hf336 (by unfold offD; decide) hx504
              have ha520 := row_fresh hr521 hN516
              have hr523 := rowD hf337 (by unfold offD; decide) hx504
              have ha522 := row_fresh hr523 hN516
              have hz524 := hg514.size
              try dsimp only at h511
              have hr531 := row_kept_new hr523 hg514
              refine pw h511 rfl (op_append rfl bs326 9 (z := .string (⟨#[]⟩)) (size := 1) (bytes := 16) Try.underlying39 (by kernel_rfl) rfl rfl rfl hr531 rfl hk515 rfl (by kernel_rfl) (by first | omega | (simp only [List.length_nil, List.length_append, List.length_cons, List.length_take, List.length_drop]; omega)) (by first | omega | (simp only [List.length_nil, List.length_append, List.length_cons, List.length_take, List.length_drop]; omega)) (by omega)) ?_; clear h511
              rintro v527 w526 a525 ⟨hr528, hg529⟩ h525
              have hr528' : w526.ownsRow bs326 9 1 v527 (((ys45.take jj).map (datF (wrAll (synS (wrAll s0D (l1.take i))) (l2.take k)).fm) ++ [sv505]).length) (((ys45.take jj).map (datF (wrAll (synS (wrAll s0D (l1.take i))) (l2.take k)).fm) ++ [sv505]).flatMap strE) := row_push (y := sv505) hr528 rfl rfl; clear hr528
              have hz532 := hg529.size
              refine pk0 (v := v527) h525 rfl fun a533 h533 => ?_; clear h525
              refine pl_nil ?_
              refine co_blockN ?_
              refine co_then ?_
              refine co_reg ?_
              refine pk0 (v := .int .i64 ((jj : Nat) : Int)) h533 rfl fun a534 h534 => ?_; clear h533
              refine pk (v := .int .i64 ((jj + 1 : Nat) : Int)) h534 rfl (rn_arith' rfl rfl rfl rfl rfl rfl (IntWalk.i64_in _ (by omega)) (by omega)) fun a535 h535 => ?_; clear h534
              refine pk0 (v := .int .i64 ((jj + 1 : Nat) : Int)) h535 rfl fun a536 h536 => ?_; clear h535
              refine pl_nil ?_
              refine co_then ?_
              refine ⟨(ys45.length - (jj + 1)), by omega, ?_⟩
              have hd537 := hd503.new hg514
              have hd538 := hd537.row hr531 (by unfold offD; decide) hg529
              have hr539 := row_kept_new hr519 hg514
              have hr540 := row_kept_row hr539 hr531 hg529 (by decide)
              have hr541 := row_kept_new hr521 hg514
              have hr542 := row_kept_ap hr541 hr531 hu327 hg529
              have hB543 := hb_new hB507 hg514
              have hB544 := hb_row hB543 hr531 (by omega) hg529
              exact ⟨jj + 1, v527, h536.sub ⟨rfl, rfl, rfl, rfl, rfl, rfl, trivial⟩, rfl, by omega, by omega, (dk_eq hd538 (rfl) (by omega)), hr540, hr542, (row_eq hr528' (by first | rfl | (rw [hsv506]; exact map_at (by assumption)))), hB544⟩
          ·
           rw [hc322] at h321
           have hp545 : ((k : Nat) : Int) < 30 := of_decide_eq_true hc322
           clear hc322
           refine co_true h321 rfl ?_
           refine wp_skip ?_
           refine co_then ?_
           refine co_seq ?_
           refine wp_block ?_
           refine dr_gen (fun x => Below w.heap.size w x) (by kernel_rfl) (fun w546 hg547 => ?_) (fun w546 hg547 => ?_)
           ·
            have hz548 := hg547.size
            have hB549 := hb_new hB85 hg547
            exact hB549
           have hz550 := hg547.size
           have hB551 := hb_new hB85 hg547
           refine dk0 0 (v := pt N6 0) h321 rfl rfl hB551 fun a552 h552 => ?_; clear h321
           refine dk0 1 (v := v2) h552 rfl rfl hB551 fun a553 h553 => ?_; clear h552
           refine dk0 2 (v := .int .i64 ((k : Nat) : Int)) h553 rfl rfl hB551 fun a554 h554 => ?_; clear h553
           obtain ⟨y555, hy555⟩ : ∃ z, l2[k]? = some z := ⟨_, List.getElem?_eq_getElem (by first | omega | (simp; done) | (simp; omega))⟩
           have oky555 := hok2 _ (List.mem_of_getElem? hy555)
           have k556 : -9223372036854775808 ≤ y555.2.1 ∧ y555.2.1 ≤ 9223372036854775807 := oky555.1
           have k557 : y555.2.2.1.size ≤ 1048576 := oky555.2.1
           refine dk 3 (v := pt (blkOf v2) (offOf v2 + k * 4)) h554 rfl rfl hB551 (fun x hx => (rn_index rfl rfl rfl Try.underlying22 Try.sizeOf29 (hs2.below hx) (by omega) (by first | omega | (simp; done) | (simp; omega)))) fun a558 h558 => ?_; clear h554
           refine dk0 4 (v := pt (blkOf v2) (offOf v2 + k * 4 + 1)) h558 rfl rfl hB551 fun a559 h559 => ?_; clear h558
           refine dk 5 (v := .int .i64 y555.2.1) h559 rfl rfl hB551 (fun x hx => (rn_load1 rfl rfl Try.isAgg3 ((sl_at (hs2.below hx) hy555) 1 _ rfl))) fun a560 h560 => ?_; clear h559
           refine dk0 6 (v := v2) h560 rfl rfl hB551 fun a561 h561 => ?_; clear h560
           refine dk0 7 (v := .int .i64 ((k : Nat) : Int)) h561 rfl rfl hB551 fun a562 h562 => ?_; clear h561
           refine dk 8 (v := pt (blkOf v2) (offOf v2 + k * 4)) h562 rfl rfl hB551 (fun x hx => (rn_index rfl rfl rfl Try.underlying22 Try.sizeOf29 (hs2.below hx) (by omega) (by first | omega | (simp; done) | (simp; omega)))) fun a563 h563 => ?_; clear h562
           refine dk0 9 (v := pt (blkOf v2) (offOf v2 + k * 4 + 2)) h563 rfl rfl hB551 fun a564 h564 => ?_; clear h563
           refine dk 10 (v := .string y555.2.2.1) h564 rfl rfl hB551 (fun x hx => (rn_load1 rfl rfl Try.isAgg9 ((sl_at (hs2.below hx) hy555) 2 _ rfl))) fun a565 h565 => ?_; clear h564
           have hd570 := hf82.new hg547
           refine d1 11 h565 rfl rfl (op_call (args := #[pt N6 0, .int .i64 y555.2.1, .string y555.2.2.1]) (R := fun res xw => res = .int .i64 (wrE y555.2.1) ∧ DObj w.heap.size xw N6 (0 + i + (wrAll s0D (l1.take i)).ps.length + k + 1) (wrS (wrAll (synS (wrAll s0D (l1.take i))) (l2.take k)) y555.2.1 y555.2.2.1) ∧ ButD w.heap.size w546 xw) rfl rfl rfl (by kernel_rfl) (by kernel_rfl) (Try.call21 _ _) (tWrite w546 y555.2.1 y555.2.2.1 hd570 ((wrAll_I (wrAll_I s0_I hok1 i).sync.1 hok2 k).hsz (by omega) y555.2.1 oky555.2.1) ((wrAll_I (wrAll_I s0_I hok1 i).sync.1 hok2 k).hpl (by omega))) (by rintro e x ⟨rfl, h1, h2⟩; exact ⟨_, rfl, rfl, h1, h2⟩)) ?_ ?_; clear h565
           ·
            rintro _ w567 ⟨rfl, hd568, hx569⟩
            have hz572 := hx569.size
            have hB571 := (hbD hB551 hx569)
            have hz573 := hB571.size
            exact hB571
           rintro _ w567 a566 ⟨rfl, hd568, hx569⟩ h566
           have hz572 := hx569.size
           have hB571 := (hbD hB551 hx569)
           have hz573 := hB571.size
           refine dr_done (by kernel_rfl) ?_
           refine co_blockN ?_
           refine co_then ?_
           refine co_reg ?_
           refine pk0 (v := .int .i64 ((k : Nat) : Int)) h566 rfl fun a574 h574 => ?_; clear h566
           refine pk (v := .int .i64 ((k + 1 : Nat) : Int)) h574 rfl (rn_arith' rfl rfl rfl rfl rfl rfl (IntWalk.i64_in _ (by omega)) (by omega)) fun a575 h575 => ?_; clear h574
           refine pk0 (v := .int .i64 ((k + 1 : Nat) : Int)) h575 rfl fun a576 h576 => ?_; clear h575
           refine pl_nil ?_
           refine co_then ?_
           refine ⟨(l2.length - (k + 1)), by omega, ?_⟩
           have hr577 := row_kept_new hf83 hg547
           have hr578 := rowD hr577 (by unfold offD; decide) hx569
           have hr579 := row_kept_new hf84 hg547
           have hr580 := rowD hr579 (by unfold offD; decide) hx569
           exact ⟨k + 1, h576.sub ⟨rfl, rfl, rfl, rfl, rfl, rfl, trivial⟩, rfl, by omega, by omega, (dk_eq hd568 (by first | rfl | exact (wrAll_at (by assumption)).symm) (by omega)), hr578, hr580, hB571⟩
      ·
       rw [hc73] at h72
       have hp581 : ((j : Nat) : Int) < ((ys45.length : Nat) : Int) := of_decide_eq_true hc73
       clear hc73
       refine co_true h72 rfl ?_
       refine wp_skip ?_
       refine co_then ?_
       refine co_seq ?_
       refine wp_block ?_
       refine co_reg ?_
       refine pk0 (v := u1) h72 rfl fun a582 h582 => ?_; clear h72
       refine pk0 (v := pt N6 0) h582 rfl fun a583 h583 => ?_; clear h582
       refine pk0 (v := u46) h583 rfl fun a584 h584 => ?_; clear h583
       refine pk0 (v := .int .i64 ((j : Nat) : Int)) h584 rfl fun a585 h585 => ?_; clear h584
       obtain ⟨y586, hy586⟩ : ∃ z, ys45[j]? = some z := ⟨_, List.getElem?_eq_getElem (by first | omega | (simp; done) | (simp; omega))⟩
       refine pk (v := pt (blkOf u46) (offOf u46 + j * 1)) h585 rfl (rn_index rfl rfl rfl Try.underlying37 Try.sizeOf3 (row_sl hf64 (intE_len .i64)) (by omega) (by first | omega | (simp; done) | (simp; omega))) fun a587 h587 => ?_; clear h585
       refine pk (v := .int .i64 y586) h587 rfl (rn_load1 rfl rfl Try.isAgg3 ((sl_at (row_sl hf64 (intE_len .i64)) hy586) 0 _ rfl)) fun a588 h588 => ?_; clear h587
       refine pw h588 rfl (op_call (args := #[pt N6 0, .int .i64 y586]) (R := fun res xw => ∃ sv : ByteArray, res = .string sv ∧ sv = datF (synS (wrAll s0D (l1.take i))).fm y586 ∧ DObj w.heap.size xw N6 (0 + i + (wrAll s0D (l1.take i)).ps.length) (synS (wrAll s0D (l1.take i))) ∧ ButD w.heap.size w60 xw) rfl rfl rfl (by kernel_rfl) (by kernel_rfl) (Try.call19 _ _) (tData w60 y586 hf63) (by rintro e x ⟨rfl, h1, h2⟩; exact ⟨_, rfl, _, rfl, rfl, h1, h2⟩)) ?_; clear h588
       rintro _ w590 a589 ⟨sv593, rfl, hsv594, hd591, hx592⟩ h589
       have hz596 := hx592.size
       have hB595 := (hbD hB66 hx592)
       have hz597 := hB595.size
       have hq598 : sv593.size = (datF (synS (wrAll s0D (l1.take i))).fm y586 : ByteArray).size := by rw [hsv594]
       refine pw h589 rfl (op_new (v := fun N => .slice (some ⟨N, 0, none⟩) 1 1) (T := 9) (cs := #[.string sv593]) (by kernel_rfl) (by kernel_rfl) (by kernel_rfl)) ?_; clear h589
       rintro _ w600 a599 ⟨N601, rfl, hN604, hz605, hk603, hg602⟩ h599
       have hr607 := rowD hf64 (by unfold offD; decide) hx592
       have ha606 := row_fresh hr607 hN604
       have hr609 := rowD hf65 (by unfold offD; decide) hx592
       have ha608 := row_fresh hr609 hN604
       have hz610 := hg602.size
       try dsimp only at h599
       have hr617 := row_kept_new hr609 hg602
       refine pw h599 rfl (op_append rfl w.heap.size 9 (z := .string (⟨#[]⟩)) (size := 1) (bytes := 16) Try.underlying39 (by kernel_rfl) rfl rfl rfl hr617 rfl hk603 rfl (by kernel_rfl) (by first | omega | (simp only [List.length_nil, List.length_append, List.length_cons, List.length_take, List.length_drop]; omega)) (by first | omega | (simp only [List.length_nil, List.length_append, List.length_cons, List.length_take, List.length_drop]; omega)) (by omega)) ?_; clear h599
       rintro v613 w612 a611 ⟨hr614, hg615⟩ h611
       have hr614' : w612.ownsRow w.heap.size 9 1 v613 (((ys45.take j).map (datF (synS (wrAll s0D (l1.take i))).fm) ++ [sv593]).length) (((ys45.take j).map (datF (synS (wrAll s0D (l1.take i))).fm) ++ [sv593]).flatMap strE) := row_push (y := sv593) hr614 rfl rfl; clear hr614
       have hz618 := hg615.size
       refine pk0 (v := v613) h611 rfl fun a619 h619 => ?_; clear h611
       refine pl_nil ?_
       refine co_blockN ?_
       refine co_then ?_
       refine co_reg ?_
       refine pk0 (v := .int .i64 ((j : Nat) : Int)) h619 rfl fun a620 h620 => ?_; clear h619
       refine pk (v := .int .i64 ((j + 1 : Nat) : Int)) h620 rfl (rn_arith' rfl rfl rfl rfl rfl rfl (IntWalk.i64_in _ (by omega)) (by omega)) fun a621 h621 => ?_; clear h620
       refine pk0 (v := .int .i64 ((j + 1 : Nat) : Int)) h621 rfl fun a622 h622 => ?_; clear h621
       refine pl_nil ?_
       refine co_then ?_
       refine ⟨(ys45.length - (j + 1)), by omega, ?_⟩
       have hd623 := hd591.new hg602
       have hd624 := hd623.row hr617 (by unfold offD; decide) hg615
       have hr625 := row_kept_new hr607 hg602
       have hr626 := row_kept_row hr625 hr617 hg615 (by decide)
       have hB627 := hb_new hB595 hg602
       have hB628 := hb_row hB627 hr617 (by omega) hg615
       exact ⟨j + 1, v613, h622.sub ⟨rfl, rfl, rfl, rfl, rfl, rfl, trivial⟩, rfl, by omega, by omega, (dk_eq hd624 (rfl) (by omega)), hr626, (row_eq hr614' (by first | rfl | (rw [hsv594]; exact map_at (by assumption)))), hB628⟩
   ·
    rw [hc26] at h25
    have hp629 : ((i : Nat) : Int) < ((l1.length : Nat) : Int) := of_decide_eq_true hc26
    clear hc26
    refine pk0 (v := .int .i64 ((i : Nat) : Int)) h25 rfl fun a630 h630 => ?_; clear h25
    refine pk0 (v := .bool (decide (((i : Nat) : Int) < 30))) h630 rfl fun a631 h631 => ?_; clear h630
    refine pk0 (v := .bool (decide (((i : Nat) : Int) < 30))) h631 rfl fun a632 h632 => ?_; clear h631
    refine pl_nil ?_
    refine co_then ?_
    cases hc633 : (decide (((i : Nat) : Int) < 30))
    ·
     rw [hc633] at h632
     have hp634 : ¬ (((i : Nat) : Int) < 30) := of_decide_eq_false hc633
     clear hc633
     refine co_false h632 rfl ?_
     refine wp_exit ?_
     refine co_thenX ?_
     refine co_thenX ?_
     refine co_blockX ?_
     refine co_then ?_
     refine co_seq ?_
     refine co_reg ?_
     refine pk0 (v := pt N6 0) h632 rfl fun a635 h635 => ?_; clear h632
     have hplA := (wrAll_I s0_I hok1 i).pl
     have hpl640 := (wrAll_I s0_I hok1 i).pl
     refine pw h635 rfl (op_call (args := #[pt N6 0]) (R := fun res xw => res = .int .i64 (sumP (wrAll s0D (l1.take i)).ps) ∧ DObj w.heap.size xw N6 (0 + i + (wrAll s0D (l1.take i)).ps.length) (synS (wrAll s0D (l1.take i))) ∧ ButD w.heap.size w15 xw) rfl rfl rfl (by kernel_rfl) (by kernel_rfl) (Try.call22 _ _) (tSync w15 hf18 ((wrAll_I s0_I hok1 i).hsb (by omega))) (by rintro e x ⟨rfl, h1, h2⟩; exact ⟨_, rfl, rfl, h1, h2⟩)) ?_; clear h635
     rintro _ w637 a636 ⟨rfl, hd638, hx639⟩ h636
     have hz642 := hx639.size
     have hB641 := (hbD hB19 hx639)
     have hz643 := hB641.size
     refine pl_nil ?_
     refine co_then ?_
     refine co_seq ?_
     refine co_reg ?_
     refine pk0 (v := pt N6 0) h636 rfl fun a644 h644 => ?_; clear h636
     refine pw h644 rfl (op_call (args := #[pt N6 0]) (R := fun res xw => ∃ (ys : List Int) (u : Value), res = u ∧ xw.ownsRow w637.heap.size 3 1 u ys.length (ys.flatMap (intE .i64)) ∧ KeysF (synS (wrAll s0D (l1.take i))).fm ys ∧ ys.length ≤ (0 + i + (wrAll s0D (l1.take i)).ps.length) ∧ DObj w.heap.size xw N6 (0 + i + (wrAll s0D (l1.take i)).ps.length) (synS (wrAll s0D (l1.take i))) ∧ ButD w.heap.size w637 xw) rfl rfl rfl (by kernel_rfl) (by kernel_rfl) (Try.call23 _ _) (tFiles w637 hd638 (by omega)) (by rintro e x ⟨ys, u, rfl, h⟩; exact ⟨_, rfl, ys, u, rfl, h⟩)) ?_; clear h644
     rintro u650 w646 a645 ⟨ys649, _, rfl, hr651, hK652, hyl653, hd647, hx648⟩ h645
     have hz655 := hx648.size
     have hB654 := (hbD hB641 hx648)
     have hz656 := hB654.size
     have hl657 := sl_len (row_sl hr651 (intE_len .i64))
     refine pk0 (v := u650) h645 rfl fun a658 h658 => ?_; clear h645
     refine pl_nil ?_
     refine co_then ?_
     refine co_seq ?_
     refine co_reg ?_
     refine pk0 (v := .slice none 0 0) h658 rfl fun a659 h659 => ?_; clear h658
     refine pl_nil ?_
     refine co_then ?_
     refine co_seq ?_
     refine co_seq ?_
     refine co_reg ?_
     refine pk0 (v := .int .i64 0) h659 rfl fun a660 h660 => ?_; clear h659
     refine pl_nil ?_
     refine co_then ?_
     refine wp_block ?_
     have h661 : Slots 168 [(1, v2), (2, .int .i64 n), (7, pt N6 0), (9, u650), (10, .slice none 0 0), (11, .int .i64 0)] _ := h660.sub ⟨rfl, rfl, rfl, rfl, rfl, rfl, trivial⟩; clear h660
     refine co_loop (fun mm a x => ∃ (j : Nat) (u1 : Value), Slots 168 [(1, v2), (2, .int .i64 n), (7, pt N6 0), (9, u650), (10, u1), (11, .int .i64 ((j : Nat) : Int))] a ∧ mm = ys649.length - j ∧ (j ≤ ys649.length) ∧ (w.heap.size ≤ x.heap.size) ∧ DObj w.heap.size x N6 (0 + i + (wrAll s0D (l1.take i)).ps.length) (synS (wrAll s0D (l1.take i))) ∧ x.ownsRow w637.heap.size 3 1 u650 ys649.length (ys649.flatMap (intE .i64)) ∧ x.ownsRow w.heap.size 9 1 u1 ((ys649.take j).map (datF (synS (wrAll s0D (l1.take i))).fm)).length (((ys649.take j).map (datF (synS (wrAll s0D (l1.take i))).fm)).flatMap strE) ∧ Below w.heap.size w x) (ys649.length - 0) ?_ ?_
     · exact ⟨0, (.slice none 0 0), h661.sub ⟨rfl, rfl, rfl, rfl, rfl, (slot_eq rfl (congrArg (Value.int .i64) (by first | rfl | omega))), trivial⟩, rfl, by omega, by omega, (dk_eq hd647 (rfl) (by omega)), hr651, (row_nilL _ _ _ _ _), hB654⟩
     · rintro k662 a663 w664 ⟨j, u1, h663, rfl, hi665, hi666, hf667, hf668, hf669, hB670⟩
       have hz671 := hB670.size
       have hml672 : ((ys649.take j).map (datF (synS (wrAll s0D (l1.take i))).fm)).length = j := by rw [List.length_map, List.length_take]; omega
       refine co_seq ?_
       refine co_seq ?_
       refine co_reg ?_
       refine pk0 (v := .int .i64 ((j : Nat) : Int)) h663 rfl fun a673 h673 => ?_; clear h663
       refine pk0 (v := u650) h673 rfl fun a674 h674 => ?_; clear h673
       refine pk (v := .int .i64 ((ys649.length : Nat) : Int)) h674 rfl (rn_lenOwn rfl rfl Try.underlying37 hf668) fun a675 h675 => ?_; clear h674
       refine pk0 (v := .bool (decide (((j : Nat) : Int) < ((ys649.length : Nat) : Int)))) h675 rfl fun a676 h676 => ?_; clear h675
       refine pl_nil ?_
       refine co_then ?_
       cases hc677 : (decide (((j : Nat) : Int) < ((ys649.length : Nat) : Int)))
       ·
        rw [hc677] at h676
        have hp678 : ¬ (((j : Nat) : Int) < ((ys649.length : Nat) : Int)) := of_decide_eq_false hc677
        clear hc677
        refine co_false h676 rfl ?_
        refine wp_exit ?_
        refine co_thenX ?_
        refine co_thenX ?_
        refine co_blockX ?_
        refine co_then ?_
        refine co_seq ?_
        refine co_seq ?_
        refine co_reg ?_
        refine pk0 (v := .int .i64 0) h676 rfl fun a679 h679 => ?_; clear h676
        refine pl_nil ?_
        refine co_then ?_
        refine wp_block ?_
        have h680 : Slots 168 [(1, v2), (2, .int .i64 n), (7, pt N6 0), (9, u650), (10, u1), (12, .int .i64 0)] _ := h679.sub ⟨rfl, rfl, rfl, rfl, rfl, rfl, trivial⟩; clear h679
        refine co_loop (fun mm a x => ∃ (k : Nat), Slots 168 [(1, v2), (2, .int .i64 n), (7, pt N6 0), (9, u650), (10, u1), (12, .int .i64 ((k : Nat) : Int))] a ∧ mm = l2.length - k ∧ (k ≤ l2.length) ∧ (k ≤ 30) ∧ DObj w.heap.size x N6 (0 + i + (wrAll s0D (l1.take i)).ps.length + k) (wrAll (synS (wrAll s0D (l1.take i))) (l2.take k)) ∧ x.ownsRow w637.heap.size 3 1 u650 ys649.length (ys649.flatMap (intE .i64)) ∧ x.ownsRow w.heap.size 9 1 u1 ((ys649.take j).map (datF (synS (wrAll s0D (l1.take i))).fm)).length (((ys649.take j).map (datF (synS (wrAll s0D (l1.take i))).fm)).flatMap strE) ∧ Below w.heap.size w x) (l2.length - 0) ?_ ?_
        · exact ⟨0, h680.sub ⟨rfl, rfl, rfl, rfl, rfl, (slot_eq rfl (congrArg (Value.int .i64) (by first | rfl | omega))), trivial⟩, rfl, by omega, by omega, (dk_eq hf667 (by first | rfl | exact (wrAll_at (by assumption)).symm) (by omega)), hf668, hf669, hB670⟩
        · rintro k681 a682 w683 ⟨k, h682, rfl, hi684, hi685, hf686, hf687, hf688, hB689⟩
          have hz690 := hB689.size
          refine co_seq ?_
          refine co_seq ?_
          refine co_reg ?_
          refine pk0 (v := .int .i64 ((k : Nat) : Int)) h682 rfl fun a691 h691 => ?_; clear h682
          refine pk0 (v := v2) h691 rfl fun a692 h692 => ?_; clear h691
          refine pk (v := .int .i64 ((l2.length : Nat) : Int)) h692 rfl (rn_len rfl rfl Try.underlying22 (hs2.below hB689)) fun a693 h693 => ?_; clear h692
          refine pk0 (v := .bool (decide (((k : Nat) : Int) < ((l2.length : Nat) : Int)))) h693 rfl fun a694 h694 => ?_; clear h693
          refine pk0 (v := .bool (decide (((k : Nat) : Int) < ((l2.length : Nat) : Int)))) h694 rfl fun a695 h695 => ?_; clear h694
          cases hc696 : (decide (((k : Nat) : Int) < ((l2.length : Nat) : Int)))
          ·
           rw [hc696] at h695
           have hp697 : ¬ (((k : Nat) : Int) < ((l2.length : Nat) : Int)) := of_decide_eq_false hc696
           clear hc696
           refine psk h695 rfl fun a698 h698 => ?_; clear h695
           refine psk h698 rfl fun a699 h699 => ?_; clear h698
           refine pk0 (v := .bool false) h699 rfl fun a700 h700 => ?_; clear h699
           refine pl_nil ?_
           refine co_then ?_
           refine co_false h700 rfl ?_
           refine wp_exit ?_
           refine co_thenX ?_
           refine co_thenX ?_
           refine co_blockX ?_
           refine co_then ?_
           refine co_seq ?_
           refine co_reg ?_
           refine pk0 (v := .slice none 0 0) h700 rfl fun a701 h701 => ?_; clear h700
           refine pl_nil ?_
           refine co_then ?_
           refine co_seq ?_
           refine co_seq ?_
           refine co_reg ?_
           refine pk0 (v := .int .i64 0) h701 rfl fun a702 h702 => ?_; clear h701
           refine pl_nil ?_
           refine co_then ?_
           refine wp_block ?_
           obtain ⟨bs703, hb_bs703⟩ : ∃ b, b = w683.heap.size := ⟨_, rfl⟩
           have hu704 : ∀ k, Value.ownBlock u1 = some k → k < bs703 := fun k hk => by have := (hf688.lt k hk).2; omega
           have h705 : Slots 168 [(2, .int .i64 n), (7, pt N6 0), (9, u650), (10, u1), (13, .slice none 0 0), (14, .int .i64 0)] _ := h702.sub ⟨rfl, rfl, rfl, rfl, rfl, rfl, trivial⟩; clear h702
           refine co_loop (fun mm a x => ∃ (jj : Nat) (u2 : Value), Slots 168 [(2, .int .i64 n), (7, pt N6 0), (9, u650), (10, u1), (13, u2), (14, .int .i64 ((jj : Nat) : Int))] a ∧ mm = ys649.length - jj ∧ (jj ≤ ys649.length) ∧ (bs703 ≤ x.heap.size) ∧ DObj w.heap.size x N6 (0 + i + (wrAll s0D (l1.take i)).ps.length + k) (wrAll (synS (wrAll s0D (l1.take i))) (l2.take k)) ∧ x.ownsRow w637.heap.size 3 1 u650 ys649.length (ys649.flatMap (intE .i64)) ∧ x.ownsRow w.heap.size 9 1 u1 ((ys649.take j).map (datF (synS (wrAll s0D (l1.take i))).fm)).length (((ys649.take j).map (datF (synS (wrAll s0D (l1.take i))).fm)).flatMap strE) ∧ x.ownsRow bs703 9 1 u2 ((ys649.take jj).map (datF (wrAll (synS (wrAll s0D (l1.take i))) (l2.take k)).fm)).length (((ys649.take jj).map (datF (wrAll (synS (wrAll s0D (l1.take i))) (l2.take k)).fm)).flatMap strE) ∧ Below w.heap.size w x) (ys649.length - 0) ?_ ?_
           · exact ⟨0, (.slice none 0 0), h705.sub ⟨rfl, rfl, rfl, rfl, rfl, (slot_eq rfl (congrArg (Value.int .i64) (by first | rfl | omega))), trivial⟩, rfl, by omega, by omega, (dk_eq hf686 (rfl) (by omega)), hf687, hf688, (row_nilL _ _ _ _ _), hB689⟩
           · rintro k706 a707 w708 ⟨jj, u2, h707, rfl, hi709, hi710, hf711, hf712, hf713, hf714, hB715⟩
             have hz716 := hB715.size
             have hml717 : ((ys649.take jj).map (datF (wrAll (synS (wrAll s0D (l1.take i))) (l2.take k)).fm)).length = jj := by rw [List.length_map, List.length_take]; omega
             refine co_seq ?_
             refine co_seq ?_
             refine co_reg ?_
             refine pk0 (v := .int .i64 ((jj : Nat) : Int)) h707 rfl fun a718 h718 => ?_; clear h707
             refine pk0 (v := u650) h718 rfl fun a719 h719 => ?_; clear h718
             refine pk (v := .int .i64 ((ys649.length : Nat) : Int)) h719 rfl (rn_lenOwn rfl rfl Try.underlying37 hf712) fun a720 h720 => ?_; clear h719
             refine pk0 (v := .bool (decide (((jj : Nat) : Int) < ((ys649.length : Nat) : Int)))) h720 rfl fun a721 h721 => ?_; clear h720
             refine pl_nil ?_
             refine co_then ?_
             cases hc722 : (decide (((jj : Nat) : Int) < ((ys649.length : Nat) : Int)))
             ·
              rw [hc722] at h721
              have hp723 : ¬ (((jj : Nat) : Int) < ((ys649.length : Nat) : Int)) := of_decide_eq_false hc722
              clear hc722
              refine co_false h721 rfl ?_
              refine wp_exit ?_
              refine co_thenX ?_
              refine co_thenX ?_
              refine co_blockX ?_
              refine co_then ?_
              refine co_seq ?_
              refine co_reg ?_
              refine pk0 (v := pt N6 0) h721 rfl fun a724 h724 => ?_; clear h721
              refine pw h724 rfl (op_call (args := #[pt N6 0]) (R := fun res xw => res = .int .i64 (sumP (wrAll (synS (wrAll s0D (l1.take i))) (l2.take k)).ps) ∧ DObj w.heap.size xw N6 (0 + i + (wrAll s0D (l1.take i)).ps.length + k) (wrAll (synS (wrAll s0D (l1.take i))) (l2.take k)) ∧ ButD w.heap.size w708 xw) rfl rfl rfl (by kernel_rfl) (by kernel_rfl) (Try.call24 _ _) (tPending w708 hf711 ((wrAll_I (wrAll_I s0_I hok1 i).sync.1 hok2 k).hsb (by omega))) (by rintro e x ⟨rfl, h1, h2⟩; exact ⟨_, rfl, rfl, h1, h2⟩)) ?_; clear h724
              rintro _ w726 a725 ⟨rfl, hd727, hx728⟩ h725
              have hz730 := hx728.size
              have hB729 := (hbD hB715 hx728)
              have hz731 := hB729.size
              refine pk0 (v := .int .i64 (sumP (wrAll (synS (wrAll s0D (l1.take i))) (l2.take k)).ps)) h725 rfl fun a732 h732 => ?_; clear h725
              refine pl_nil ?_
              refine co_then ?_
              refine co_seq ?_
              refine co_reg ?_
              refine pk0 (v := pt N6 0) h732 rfl fun a733 h733 => ?_; clear h732
              refine pk0 (v := .int .i64 n) h733 rfl fun a734 h734 => ?_; clear h733
              have hpl739 := (wrAll_I (wrAll_I s0_I hok1 i).sync.1 hok2 k).pl
              refine pw h734 rfl (op_call (args := #[pt N6 0, .int .i64 n]) (R := fun res xw => res = .tuple #[] ∧ DObj w.heap.size xw N6 (2 * (0 + i + (wrAll s0D (l1.take i)).ps.length + k) + 2 * (wrAll (synS (wrAll s0D (l1.take i))) (l2.take k)).ps.length) (crS (wrAll (synS (wrAll s0D (l1.take i))) (l2.take k)) n) ∧ ButD w.heap.size w726 xw) rfl rfl rfl (by kernel_rfl) (by kernel_rfl) (Try.call25 _ _) (tCrash w726 n hd727 (by omega) ((wrAll_I (wrAll_I s0_I hok1 i).sync.1 hok2 k).hpl (by omega)) (by rw [wrAll_boots]; show 0 ≤ (wrAll s0D _).boots ∧ (wrAll s0D _).boots ≤ _; rw [wrAll_boots]; decide) hni ((wrAll_I (wrAll_I s0_I hok1 i).sync.1 hok2 k).hcr (by omega) hni) (wrAll_I (wrAll_I s0_I hok1 i).sync.1 hok2 k).hfin) (by rintro e x ⟨rfl, h1, h2⟩; exact ⟨_, rfl, rfl, h1, h2⟩)) ?_; clear h734
              rintro _ w736 a735 ⟨rfl, hd737, hx738⟩ h735
              have hz741 := hx738.size
              have hB740 := (hbD hB729 hx738)
              have hz742 := hB740.size
              refine pl_nil ?_
              refine co_then ?_
              refine co_seq ?_
              refine co_reg ?_
              refine pk0 (v := .int .i64 0) h735 rfl fun a743 h743 => ?_; clear h735
              refine pl_nil ?_
              refine co_then ?_
              refine co_seq ?_
              refine co_seq ?_
              refine co_reg ?_
              refine pk0 (v := .int .i64 0) h743 rfl fun a744 h744 => ?_; clear h743
              refine pl_nil ?_
              refine co_then ?_
              refine wp_block ?_
              have h745 : Slots 168 [(2, .int .i64 n), (7, pt N6 0), (9, u650), (10, u1), (13, u2), (15, .int .i64 (sumP (wrAll (synS (wrAll s0D (l1.take i))) (l2.take k)).ps)), (16, .int .i64 0), (17, .int .i64 0)] _ := h744.sub ⟨rfl, rfl, rfl, rfl, rfl, rfl, rfl, rfl, trivial⟩; clear h744
              refine co_loop (fun mm a x => ∃ (q : Nat), Slots 168 [(2, .int .i64 n), (7, pt N6 0), (9, u650), (10, u1), (13, u2), (15, .int .i64 (sumP (wrAll (synS (wrAll s0D (l1.take i))) (l2.take k)).ps)), (16, .int .i64 (sumQ (sumK (keptL (mx0 n) (wrAll (synS (wrAll s0D (l1.take i))) (l2.take k)).ps)) (ys649.take q))), (17, .int .i64 ((q : Nat) : Int))] a ∧ mm = ys649.length - q ∧ (q ≤ ys649.length) ∧ DObj w.heap.size x N6 (2 * (0 + i + (wrAll s0D (l1.take i)).ps.length + k) + 2 * (wrAll (synS (wrAll s0D (l1.take i))) (l2.take k)).ps.length) (crS (wrAll (synS (wrAll s0D (l1.take i))) (l2.take k)) n) ∧ x.ownsRow w637.heap.size 3 1 u650 ys649.length (ys649.flatMap (intE .i64)) ∧ x.ownsRow w.heap.size 9 1 u1 ((ys649.take j).map (datF (synS (wrAll s0D (l1.take i))).fm)).length (((ys649.take j).map (datF (synS (wrAll s0D (l1.take i))).fm)).flatMap strE) ∧ x.ownsRow bs703 9 1 u2 ((ys649.take jj).map (datF (wrAll (synS (wrAll s0D (l1.take i))) (l2.take k)).fm)).length (((ys649.take jj).map (datF (wrAll (synS (wrAll s0D (l1.take i))) (l2.take k)).fm)).flatMap strE) ∧ Below w.heap.size w x) (ys649.length - 0) ?_ ?_
              have hr746 := rowD hf712 (by unfold offD; decide) hx728
              have hr747 := rowD hr746 (by unfold offD; decide) hx738
              have hr748 := rowD hf713 (by unfold offD; decide) hx728
              have hr749 := rowD hr748 (by unfold offD; decide) hx738
              have hr750 := rowD hf714 (by unfold offD; decide) hx728
              have hr751 := rowD hr750 (by unfold offD; decide) hx738
              · exact ⟨0, h745.sub ⟨rfl, rfl, rfl, rfl, rfl, rfl, (slot_eq rfl (congrArg (Value.int .i64) (by first | rfl | (rw [hqa]; omega)))), (slot_eq rfl (congrArg (Value.int .i64) (by first | rfl | omega))), trivial⟩, rfl, by omega, (dk_eq hd737 (rfl) (by omega)), hr747, hr749, hr751, hB740⟩
              · rintro k752 a753 w754 ⟨q, h753, rfl, hi755, hf756, hf757, hf758, hf759, hB760⟩
                have hz761 := hB760.size
                have hsq := sumQ_takes hK652.1 (wrAll_I (wrAll_I s0_I hok1 i).sync.1 hok2 k) n q; have hsq1 := sumQ_takes hK652.1 (wrAll_I (wrAll_I s0_I hok1 i).sync.1 hok2 k) n (q + 1)
                have hmx0 : mx0 n ≤ 9223372036854775807 := by unfold mx0; split <;> omega
                refine co_seq ?_
                refine co_seq ?_
                refine co_reg ?_
                refine pk0 (v := .int .i64 ((q : Nat) : Int)) h753 rfl fun a762 h762 => ?_; clear h753
                refine pk0 (v := u650) h762 rfl fun a763 h763 => ?_; clear h762
                refine pk (v := .int .i64 ((ys649.length : Nat) : Int)) h763 rfl (rn_lenOwn rfl rfl Try.underlying37 hf757) fun a764 h764 => ?_; clear h763
                refine pk0 (v := .bool (decide (((q : Nat) : Int) < ((ys649.length : Nat) : Int)))) h764 rfl fun a765 h765 => ?_; clear h764
                refine pl_nil ?_
                refine co_then ?_
                cases hc766 : (decide (((q : Nat) : Int) < ((ys649.length : Nat) : Int)))
                ·
                 rw [hc766] at h765
                 have hp767 : ¬ (((q : Nat) : Int) < ((ys649.length : Nat) : Int)) := of_decide_eq_false hc766
                 clear hc766
                 refine co_false h765 rfl ?_
                 refine wp_exit ?_
                 refine co_thenX ?_
                 refine co_thenX ?_
                 refine co_blockX ?_
                 refine co_then ?_
                 refine co_seq ?_
                 refine co_reg ?_
                 refine pk0 (v := .int .i64 (sumQ (sumK (keptL (mx0 n) (wrAll (synS (wrAll s0D (l1.take i))) (l2.take k)).ps)) (ys649.take q))) h765 rfl fun a768 h768 => ?_; clear h765
                 refine pk0 (v := .int .i64 n) h768 rfl fun a769 h769 => ?_; clear h768
                 obtain ⟨kp770, hkp771⟩ : ∃ z : Int, z = (if n < 0 then 0 else n) := ⟨_, rfl⟩
                 have hq772 : kp770 ≥ n ∧ kp770 ≥ 0 ∧ (kp770 = n ∨ kp770 = 0) := by rw [hkp771]; split <;> omega
                 refine pk (v := .int .i64 kp770) h769 rfl (by rw [hkp771]; kernel_rfl) fun a773 h773 => ?_; clear h769
                 refine pk0 (v := .int .i64 (sumP (wrAll (synS (wrAll s0D (l1.take i))) (l2.take k)).ps)) h773 rfl fun a774 h774 => ?_; clear h773
                 obtain ⟨kp775, hkp776⟩ : ∃ z : Int, z = (if sumP (wrAll (synS (wrAll s0D (l1.take i))) (l2.take k)).ps < kp770 then sumP (wrAll (synS (wrAll s0D (l1.take i))) (l2.take k)).ps else kp770) := ⟨_, rfl⟩
                 have hq777 : kp775 ≤ kp770 ∧ kp775 ≤ sumP (wrAll (synS (wrAll s0D (l1.take i))) (l2.take k)).ps ∧ (kp775 = kp770 ∨ kp775 = sumP (wrAll (synS (wrAll s0D (l1.take i))) (l2.take k)).ps) := by rw [hkp776]; split <;> omega
                 refine pk (v := .int .i64 kp775) h774 rfl (by rw [hkp776]; kernel_rfl) fun a778 h778 => ?_; clear h774
                 refine pk0 (v := .bool (decide (sumQ (sumK (keptL (mx0 n) (wrAll (synS (wrAll s0D (l1.take i))) (l2.take k)).ps)) (ys649.take q) ≤ kp775))) h778 rfl fun a779 h779 => ?_; clear h778
                 refine pk0 (v := .bool (decide (sumQ (sumK (keptL (mx0 n) (wrAll (synS (wrAll s0D (l1.take i))) (l2.take k)).ps)) (ys649.take q) ≤ kp775))) h779 rfl fun a780 h780 => ?_; clear h779
                 have hc781 : (decide (sumQ (sumK (keptL (mx0 n) (wrAll (synS (wrAll s0D (l1.take i))) (l2.take k)).ps)) (ys649.take q) ≤ kp775)) = true := by have e : mx0 n = kp770 := (by rw [hkp771]; rfl); exact decide_eq_true (by omega)
                 rw [hc781] at h780; clear hc781
                 refine pk0 (v := pt N6 0) h780 rfl fun a782 h782 => ?_; clear h780
                 refine pw h782 rfl (op_call (args := #[pt N6 0]) (R := fun res xw => res = .int .i64 (sumP (crS (wrAll (synS (wrAll s0D (l1.take i))) (l2.take k)) n).ps) ∧ DObj w.heap.size xw N6 (2 * (0 + i + (wrAll s0D (l1.take i)).ps.length + k) + 2 * (wrAll (synS (wrAll s0D (l1.take i))) (l2.take k)).ps.length) (crS (wrAll (synS (wrAll s0D (l1.take i))) (l2.take k)) n) ∧ ButD w.heap.size w754 xw) rfl rfl rfl (by kernel_rfl) (by kernel_rfl) (Try.call24 _ _) (tPending w754 hf756 (((wrAll_I (wrAll_I s0_I hok1 i).sync.1 hok2 k).crash n).hsb (by omega))) (by rintro e x ⟨rfl, h1, h2⟩; exact ⟨_, rfl, rfl, h1, h2⟩)) ?_; clear h782
                 rintro _ w784 a783 ⟨rfl, hd785, hx786⟩ h783
                 have hz788 := hx786.size
                 have hB787 := (hbD hB760 hx786)
                 have hz789 := hB787.size
                 refine pk0 (v := .bool (sumP (crS (wrAll (synS (wrAll s0D (l1.take i))) (l2.take k)) n).ps == 0)) h783 rfl fun a790 h790 => ?_; clear h783
                 refine pk0 (v := .bool (sumP (crS (wrAll (synS (wrAll s0D (l1.take i))) (l2.take k)) n).ps == 0)) h790 rfl fun a791 h791 => ?_; clear h790
                 refine pk0 (v := .bool (sumP (crS (wrAll (synS (wrAll s0D (l1.take i))) (l2.take k)) n).ps == 0)) h791 rfl fun a792 h792 => ?_; clear h791
                 have hc793 : (sumP (crS (wrAll (synS (wrAll s0D (l1.take i))) (l2.take k)) n).ps == 0) = true := by rfl
                 rw [hc793] at h792; clear hc793
                 refine pw h792 rfl (op_call (args := #[]) (R := fun res xw => res = .bool true ∧ Below w784.heap.size w784 xw) rfl rfl rfl (by kernel_rfl) (by kernel_rfl) (Try.call20 _ _) (awake11  w784 ) (by rintro e x ⟨rfl, hb796⟩; exact ⟨_, rfl, ⟨rfl, hb796⟩⟩)) ?_; clear h792
                 rintro _ w795 a794 ⟨rfl, hb796⟩ h794
                 have hz797 := hb796.size
                 refine pk0 (v := .bool true) h794 rfl fun a798 h798 => ?_; clear h794
                 refine pk0 (v := .bool true) h798 rfl fun a799 h799 => ?_; clear h798
                 refine pl_nil ?_
                 refine co_then ?_
                 refine wp_ret ?_
                 refine co_ret1 h799 rfl rfl ?_
                 have hB800 := hb_call hB787 hb796
                 exact ⟨rfl, hB800⟩
                ·
                 rw [hc766] at h765
                 have hp801 : ((q : Nat) : Int) < ((ys649.length : Nat) : Int) := of_decide_eq_true hc766
                 clear hc766
                 refine co_true h765 rfl ?_
                 refine wp_skip ?_
                 refine co_then ?_
                 refine co_seq ?_
                 refine wp_block ?_
                 refine co_seq ?_
                 refine co_reg ?_
                 refine pk0 (v := pt N6 0) h765 rfl fun a802 h802 => ?_; clear h765
                 refine pk0 (v := u650) h802 rfl fun a803 h803 => ?_; clear h802
                 refine pk0 (v := .int .i64 ((q : Nat) : Int)) h803 rfl fun a804 h804 => ?_; clear h803
                 obtain ⟨y805, hy805⟩ : ∃ z, ys649[q]? = some z := ⟨_, List.getElem?_eq_getElem (by first | omega | (simp; done) | (simp; omega))⟩
                 have oky805 := (fun (z : Int) (_ : z ∈ ys649) => trivial) _ (List.mem_of_getElem? hy805)
                 have hsa := safe_at (wrAll_I s0_I hok1 i) (wrAll_I (wrAll_I s0_I hok1 i).sync.1 hok2 k) n (((hK652).2 y805).1 (List.mem_of_getElem? hy805)); have hqa := sumQ_at (f := (sumK (keptL (mx0 n) (wrAll (synS (wrAll s0D (l1.take i))) (l2.take k)).ps))) hy805
                 refine pk (v := pt (blkOf u650) (offOf u650 + q * 1)) h804 rfl (rn_index rfl rfl rfl Try.underlying37 Try.sizeOf3 (row_sl hf757 (intE_len .i64)) (by omega) (by first | omega | (simp; done) | (simp; omega))) fun a806 h806 => ?_; clear h804
                 refine pk (v := .int .i64 y805) h806 rfl (rn_load1 rfl rfl Try.isAgg3 ((sl_at (row_sl hf757 (intE_len .i64)) hy805) 0 _ rfl)) fun a807 h807 => ?_; clear h806
                 refine pw h807 rfl (op_call (args := #[pt N6 0, .int .i64 y805]) (R := fun res xw => ∃ sv : ByteArray, res = .string sv ∧ sv = datF (crS (wrAll (synS (wrAll s0D (l1.take i))) (l2.take k)) n).fm y805 ∧ DObj w.heap.size xw N6 (2 * (0 + i + (wrAll s0D (l1.take i)).ps.length + k) + 2 * (wrAll (synS (wrAll s0D (l1.take i))) (l2.take k)).ps.length) (crS (wrAll (synS (wrAll s0D (l1.take i))) (l2.take k)) n) ∧ ButD w.heap.size w754 xw) rfl rfl rfl (by kernel_rfl) (by kernel_rfl) (Try.call19 _ _) (tData w754 y805 hf756) (by rintro e x ⟨rfl, h1, h2⟩; exact ⟨_, rfl, _, rfl, rfl, h1, h2⟩)) ?_; clear h807
                 rintro _ w809 a808 ⟨sv812, rfl, hsv813, hd810, hx811⟩ h808
                 have hz815 := hx811.size
                 have hB814 := (hbD hB760 hx811)
                 have hz816 := hB814.size
                 have hq817 : sv812.size = (datF (crS (wrAll (synS (wrAll s0D (l1.take i))) (l2.take k)) n).fm y805 : ByteArray).size := by rw [hsv813]
                 refine pk0 (v := .string sv812) h808 rfl fun a818 h818 => ?_; clear h808
                 refine pl_nil ?_
                 refine co_then ?_
                 refine co_seq ?_
                 refine co_seq ?_
                 refine co_reg ?_
                 refine pk0 (v := .string sv812) h818 rfl fun a819 h819 => ?_; clear h818
                 refine pk (v := .int .i64 ((sv812.size : Nat) : Int)) h819 rfl (rn_lenStr rfl rfl Try.underlying9) fun a820 h820 => ?_; clear h819
                 refine pk0 (v := u1) h820 rfl fun a821 h821 => ?_; clear h820
                 refine pk0 (v := .int .i64 ((q : Nat) : Int)) h821 rfl fun a822 h822 => ?_; clear h821
                 have hr824 := rowD hf758 (by unfold offD; decide) hx811
                 obtain ⟨y823, hy823⟩ : ∃ z, ((ys649.take j).map (datF (synS (wrAll s0D (l1.take i))).fm))[q]? = some z := ⟨_, List.getElem?_eq_getElem (by first | omega | (simp; done) | (simp; omega))⟩
                 have oky823 := (fun (z : ByteArray) (_ : z ∈ (ys649.take j).map (datF (synS (wrAll s0D (l1.take i))).fm)) => trivial) _ (List.mem_of_getElem? hy823)
                 have hmy823 := map_get hy805 (by omega) hy823
                 have hzy823 : y823.size = (datF (synS (wrAll s0D (l1.take i))).fm y805).size := by rw [hmy823]
                 refine pk (v := pt (blkOf u1) (offOf u1 + q * 1)) h822 rfl (rn_index rfl rfl rfl Try.underlying39 Try.sizeOf9 (row_sl hr824 strE_lenD) (by omega) (by first | omega | (simp; done) | (simp; omega))) fun a825 h825 => ?_; clear h822
                 refine pk (v := .string y823) h825 rfl (rn_load1 rfl rfl Try.isAgg9 ((sl_at (row_sl hr824 strE_lenD) hy823) 0 _ rfl)) fun a826 h826 => ?_; clear h825
                 refine pk (v := .int .i64 ((y823.size : Nat) : Int)) h826 rfl (rn_lenStr rfl rfl Try.underlying9) fun a827 h827 => ?_; clear h826
                 refine pk0 (v := .bool (decide (((sv812.size : Nat) : Int) < ((y823.size : Nat) : Int)))) h827 rfl fun a828 h828 => ?_; clear h827
                 refine pk0 (v := .bool (decide (((sv812.size : Nat) : Int) < ((y823.size : Nat) : Int)))) h828 rfl fun a829 h829 => ?_; clear h828
                 have hc830 : (decide (((sv812.size : Nat) : Int) < ((y823.size : Nat) : Int))) = false := decide_eq_false (by omega)
                 rw [hc830] at h829; clear hc830
                 refine pk0 (v := .string sv812) h829 rfl fun a831 h831 => ?_; clear h829
                 refine pk (v := .int .i64 ((sv812.size : Nat) : Int)) h831 rfl (rn_lenStr rfl rfl Try.underlying9) fun a832 h832 => ?_; clear h831
                 refine pk0 (v := u2) h832 rfl fun a833 h833 => ?_; clear h832
                 refine pk0 (v := .int .i64 ((q : Nat) : Int)) h833 rfl fun a834 h834 => ?_; clear h833
                 have hr836 := rowD hf759 (by unfold offD; decide) hx811
                 obtain ⟨y835, hy835⟩ : ∃ z, ((ys649.take jj).map (datF (wrAll (synS (wrAll s0D (l1.take i))) (l2.take k)).fm))[q]? = some z := ⟨_, List.getElem?_eq_getElem (by first | omega | (simp; done) | (simp; omega))⟩
                 have oky835 := (fun (z : ByteArray) (_ : z ∈ (ys649.take jj).map (datF (wrAll (synS (wrAll s0D (l1.take i))) (l2.take k)).fm)) => trivial) _ (List.mem_of_getElem? hy835)
                 have hmy835 := map_get hy805 (by omega) hy835
                 have hzy835 : y835.size = (datF (wrAll (synS (wrAll s0D (l1.take i))) (l2.take k)).fm y805).size := by rw [hmy835]
                 refine pk (v := pt (blkOf u2) (offOf u2 + q * 1)) h834 rfl (rn_index rfl rfl rfl Try.underlying39 Try.sizeOf9 (row_sl hr836 strE_lenD) (by omega) (by first | omega | (simp; done) | (simp; omega))) fun a837 h837 => ?_; clear h834
                 refine pk (v := .string y835) h837 rfl (rn_load1 rfl rfl Try.isAgg9 ((sl_at (row_sl hr836 strE_lenD) hy835) 0 _ rfl)) fun a838 h838 => ?_; clear h837
                 refine pk (v := .int .i64 ((y835.size : Nat) : Int)) h838 rfl (rn_lenStr rfl rfl Try.underlying9) fun a839 h839 => ?_; clear h838
                 refine pk0 (v := .bool (decide (((sv812.size : Nat) : Int) > ((y835.size : Nat) : Int)))) h839 rfl fun a840 h840 => ?_; clear h839
                 refine pk0 (v := .bool (decide (((sv812.size : Nat) : Int) > ((y835.size : Nat) : Int)))) h840 rfl fun a841 h841 => ?_; clear h840
                 refine pk0 (v := .bool (decide (((sv812.size : Nat) : Int) > ((y835.size : Nat) : Int)))) h841 rfl fun a842 h842 => ?_; clear h841
                 have hc843 : (decide (((sv812.size : Nat) : Int) > ((y835.size : Nat) : Int))) = false := decide_eq_false (by omega)
                 rw [hc843] at h842; clear hc843
                 refine pk0 (v := .string sv812) h842 rfl fun a844 h844 => ?_; clear h842
                 refine pk0 (v := u2) h844 rfl fun a845 h845 => ?_; clear h844
                 refine pk0 (v := .int .i64 ((q : Nat) : Int)) h845 rfl fun a846 h846 => ?_; clear h845
                 refine pk (v := pt (blkOf u2) (offOf u2 + q * 1)) h846 rfl (rn_index rfl rfl rfl Try.underlying39 Try.sizeOf9 (row_sl hr836 strE_lenD) (by omega) (by first | omega | (simp; done) | (simp; omega))) fun a847 h847 => ?_; clear h846
                 refine pk (v := .string y835) h847 rfl (rn_load1 rfl rfl Try.isAgg9 ((sl_at (row_sl hr836 strE_lenD) hy835) 0 _ rfl)) fun a848 h848 => ?_; clear h847
                 refine pk0 (v := .string sv812) h848 rfl fun a849 h849 => ?_; clear h848
                 refine pk (v := .int .i64 ((sv812.size : Nat) : Int)) h849 rfl (rn_lenStr rfl rfl Try.underlying9) fun a850 h850 => ?_; clear h849
                 refine pk (v := .string (y835.extract 0 sv812.size)) h850 rfl (rn_sliceStrTo (j := sv812.size) rfl rfl rfl Try.underlying9 (by omega) (by omega)) fun a851 h851 => ?_; clear h850
                 refine pk0 (v := .bool (!(sv812.toList == (y835.extract 0 sv812.size : ByteArray).toList))) h851 rfl fun a852 h852 => ?_; clear h851
                 refine pk0 (v := .bool (!(sv812.toList == (y835.extract 0 sv812.size : ByteArray).toList))) h852 rfl fun a853 h853 => ?_; clear h852
                 refine pl_nil ?_
                 refine co_then ?_
                 have hc854 : (!(sv812.toList == (y835.extract 0 sv812.size : ByteArray).toList)) = false := by have hpx := hsa.2.2.2.1; rw [← hmy835, ← hsv813] at hpx; rw [← hpx]; simp
                 rw [hc854] at h853; clear hc854
                 refine co_false h853 rfl ?_
                 refine wp_skip ?_
                 refine co_then ?_
                 refine co_reg ?_
                 refine pk0 (v := .int .i64 (sumQ (sumK (keptL (mx0 n) (wrAll (synS (wrAll s0D (l1.take i))) (l2.take k)).ps)) (ys649.take q))) h853 rfl fun a855 h855 => ?_; clear h853
                 refine pk0 (v := .string sv812) h855 rfl fun a856 h856 => ?_; clear h855
                 refine pk (v := .int .i64 ((sv812.size : Nat) : Int)) h856 rfl (rn_lenStr rfl rfl Try.underlying9) fun a857 h857 => ?_; clear h856
                 refine pk (v := .int .i64 ((sumQ (sumK (keptL (mx0 n) (wrAll (synS (wrAll s0D (l1.take i))) (l2.take k)).ps)) (ys649.take q)) + ((sv812.size : Nat) : Int))) h857 rfl (rn_arith rfl rfl rfl rfl rfl rfl (IntWalk.i64_in _ (by omega))) fun a858 h858 => ?_; clear h857
                 refine pk0 (v := u1) h858 rfl fun a859 h859 => ?_; clear h858
                 refine pk0 (v := .int .i64 ((q : Nat) : Int)) h859 rfl fun a860 h860 => ?_; clear h859
                 refine pk (v := pt (blkOf u1) (offOf u1 + q * 1)) h860 rfl (rn_index rfl rfl rfl Try.underlying39 Try.sizeOf9 (row_sl hr824 strE_lenD) (by omega) (by first | omega | (simp; done) | (simp; omega))) fun a861 h861 => ?_; clear h860
                 refine pk (v := .string y823) h861 rfl (rn_load1 rfl rfl Try.isAgg9 ((sl_at (row_sl hr824 strE_lenD) hy823) 0 _ rfl)) fun a862 h862 => ?_; clear h861
                 refine pk (v := .int .i64 ((y823.size : Nat) : Int)) h862 rfl (rn_lenStr rfl rfl Try.underlying9) fun a863 h863 => ?_; clear h862
                 refine pk (v := .int .i64 (((sumQ (sumK (keptL (mx0 n) (wrAll (synS (wrAll s0D (l1.take i))) (l2.take k)).ps)) (ys649.take q)) + ((sv812.size : Nat) : Int)) - ((y823.size : Nat) : Int))) h863 rfl (rn_arith rfl rfl rfl rfl rfl rfl (IntWalk.i64_in _ (by omega))) fun a864 h864 => ?_; clear h863
                 refine pk0 (v := .int .i64 (((sumQ (sumK (keptL (mx0 n) (wrAll (synS (wrAll s0D (l1.take i))) (l2.take k)).ps)) (ys649.take q)) + ((sv812.size : Nat) : Int)) - ((y823.size : Nat) : Int))) h864 rfl fun a865 h865 => ?_; clear h864
                 refine pl_nil ?_
                 refine co_blockN ?_
                 refine co_then ?_
                 refine co_reg ?_
                 refine pk0 (v := .int .i64 ((q : Nat) : Int)) h865 rfl fun a866 h866 => ?_; clear h865
                 refine pk (v := .int .i64 ((q + 1 : Nat) : Int)) h866 rfl (rn_arith' rfl rfl rfl rfl rfl rfl (IntWalk.i64_in _ (by omega)) (by omega)) fun a867 h867 => ?_; clear h866
                 refine pk0 (v := .int .i64 ((q + 1 : Nat) : Int)) h867 rfl fun a868 h868 => ?_; clear h867
                 refine pl_nil ?_
                 refine co_then ?_
                 refine ⟨(ys649.length - (q + 1)), by omega, ?_⟩
                 have hr869 := rowD hf757 (by unfold offD; decide) hx811
                 exact ⟨q + 1, h868.sub ⟨rfl, rfl, rfl, rfl, rfl, rfl, (slot_eq rfl (congrArg (Value.int .i64) (by first | rfl | (rw [hqa]; omega)))), rfl, trivial⟩, rfl, by omega, (dk_eq hd810 (rfl) (by omega)), hr869, hr824, hr836, hB814⟩
             ·
              rw [hc722] at h721
              have hp870 : ((jj : Nat) : Int) < ((ys649.length : Nat) : Int) := of_decide_eq_true hc722
              clear hc722
              refine co_true h721 rfl ?_
              refine wp_skip ?_
              refine co_then ?_
              refine co_seq ?_
              refine wp_block ?_
              refine co_reg ?_
              refine pk0 (v := u2) h721 rfl fun a871 h871 => ?_; clear h721
              refine pk0 (v := pt N6 0) h871 rfl fun a872 h872 => ?_; clear h871
              refine pk0 (v := u650) h872 rfl fun a873 h873 => ?_; clear h872
              refine pk0 (v := .int .i64 ((jj : Nat) : Int)) h873 rfl fun a874 h874 => ?_; clear h873
              obtain ⟨y875, hy875⟩ : ∃ z, ys649[jj]? = some z := ⟨_, List.getElem?_eq_getElem (by first | omega | (simp; done) | (simp; omega))⟩
              refine pk (v := pt (blkOf u650) (offOf u650 + jj * 1)) h874 rfl (rn_index rfl rfl rfl Try.underlying37 Try.sizeOf3 (row_sl hf712 (intE_len .i64)) (by omega) (by first | omega | (simp; done) | (simp; omega))) fun a876 h876 => ?_; clear h874
              refine pk (v := .int .i64 y875) h876 rfl (rn_load1 rfl rfl Try.isAgg3 ((sl_at (row_sl hf712 (intE_len .i64)) hy875) 0 _ rfl)) fun a877 h877 => ?_; clear h876
              refine pw h877 rfl (op_call (args := #[pt N6 0, .int .i64 y875]) (R := fun res xw => ∃ sv : ByteArray, res = .string sv ∧ sv = datF (wrAll (synS (wrAll s0D (l1.take i))) (l2.take k)).fm y875 ∧ DObj w.heap.size xw N6 (0 + i + (wrAll s0D (l1.take i)).ps.length + k) (wrAll (synS (wrAll s0D (l1.take i))) (l2.take k)) ∧ ButD w.heap.size w708 xw) rfl rfl rfl (by kernel_rfl) (by kernel_rfl) (Try.call19 _ _) (tData w708 y875 hf711) (by rintro e x ⟨rfl, h1, h2⟩; exact ⟨_, rfl, _, rfl, rfl, h1, h2⟩)) ?_; clear h877
              rintro _ w879 a878 ⟨sv882, rfl, hsv883, hd880, hx881⟩ h878
              have hz885 := hx881.size
              have hB884 := (hbD hB715 hx881)
              have hz886 := hB884.size
              have hq887 : sv882.size = (datF (wrAll (synS (wrAll s0D (l1.take i))) (l2.take k)).fm y875 : ByteArray).size := by rw [hsv883]
              refine pw h878 rfl (op_new (v := fun N => .slice (some ⟨N, 0, none⟩) 1 1) (T := 9) (cs := #[.string sv882]) (by kernel_rfl) (by kernel_rfl) (by kernel_rfl)) ?_; clear h878
              rintro _ w889 a888 ⟨N890, rfl, hN893, hz894, hk892, hg891⟩ h888
              have hr896 := rowD hf712 (by unfold offD; decide) hx881
              have ha895 := row_fresh hr896 hN893
              have hr898 := rowD hf713 (by unfold offD; decide) hx881
              have ha897 := row_fresh hr898 hN893
              have hr900 := rowD hf714 (by unfold offD; decide) hx881
              have ha899 := row_fresh hr900 hN893
              have hz901 := hg891.size
              try dsimp only at h888
              have hr908 := row_kept_new hr900 hg891
              refine pw h888 rfl (op_append rfl bs703 9 (z := .string (⟨#[]⟩)) (size := 1) (bytes := 16) Try.underlying39 (by kernel_rfl) rfl rfl rfl hr908 rfl hk892 rfl (by kernel_rfl) (by first | omega | (simp only [List.length_nil, List.length_append, List.length_cons, List.length_take, List.length_drop]; omega)) (by first | omega | (simp only [List.length_nil, List.length_append, List.length_cons, List.length_take, List.length_drop]; omega)) (by omega)) ?_; clear h888
              rintro v904 w903 a902 ⟨hr905, hg906⟩ h902
              have hr905' : w903.ownsRow bs703 9 1 v904 (((ys649.take jj).map (datF (wrAll (synS (wrAll s0D (l1.take i))) (l2.take k)).fm) ++ [sv882]).length) (((ys649.take jj).map (datF (wrAll (synS (wrAll s0D (l1.take i))) (l2.take k)).fm) ++ [sv882]).flatMap strE) := row_push (y := sv882) hr905 rfl rfl; clear hr905
              have hz909 := hg906.size
              refine pk0 (v := v904) h902 rfl fun a910 h910 => ?_; clear h902
              refine pl_nil ?_
              refine co_blockN ?_
              refine co_then ?_
              refine co_reg ?_
              refine pk0 (v := .int .i64 ((jj : Nat) : Int)) h910 rfl fun a911 h911 => ?_; clear h910
              refine pk (v := .int .i64 ((jj + 1 : Nat) : Int)) h911 rfl (rn_arith' rfl rfl rfl rfl rfl rfl (IntWalk.i64_in _ (by omega)) (by omega)) fun a912 h912 => ?_; clear h911
              refine pk0 (v := .int .i64 ((jj + 1 : Nat) : Int)) h912 rfl fun a913 h913 => ?_; clear h912
              refine pl_nil ?_
              refine co_then ?_
              refine ⟨(ys649.length - (jj + 1)), by omega, ?_⟩
              have hd914 := hd880.new hg891
              have hd915 := hd914.row hr908 (by unfold offD; decide) hg906
              have hr916 := row_kept_new hr896 hg891
              have hr917 := row_kept_row hr916 hr908 hg906 (by decide)
              have hr918 := row_kept_new hr898 hg891
              have hr919 := row_kept_ap hr918 hr908 hu704 hg906
              have hB920 := hb_new hB884 hg891
              have hB921 := hb_row hB920 hr908 (by omega) hg906
              exact ⟨jj + 1, v904, h913.sub ⟨rfl, rfl, rfl, rfl, rfl, rfl, trivial⟩, rfl, by omega, by omega, (dk_eq hd915 (rfl) (by omega)), hr917, hr919, (row_eq hr905' (by first | rfl | (rw [hsv883]; exact map_at (by assumption)))), hB921⟩
          ·
           rw [hc696] at h695
           have hp922 : ((k : Nat) : Int) < ((l2.length : Nat) : Int) := of_decide_eq_true hc696
           clear hc696
           refine pk0 (v := .int .i64 ((k : Nat) : Int)) h695 rfl fun a923 h923 => ?_; clear h695
           refine pk0 (v := .bool (decide (((k : Nat) : Int) < 30))) h923 rfl fun a924 h924 => ?_; clear h923
           refine pk0 (v := .bool (decide (((k : Nat) : Int) < 30))) h924 rfl fun a925 h925 => ?_; clear h924
           refine pl_nil ?_
           refine co_then ?_
           cases hc926 : (decide (((k : Nat) : Int) < 30))
           ·
            rw [hc926] at h925
            have hp927 : ¬ (((k : Nat) : Int) < 30) := of_decide_eq_false hc926
            clear hc926
            refine co_false h925 rfl ?_
            refine wp_exit ?_
            refine co_thenX ?_
            refine co_thenX ?_
            refine co_blockX ?_
            refine co_then ?_
            refine co_seq ?_
            refine co_reg ?_
            refine pk0 (v := .slice none 0 0) h925 rfl fun a928 h928 => ?_; clear h925
            refine pl_nil ?_
            refine co_then ?_
            refine co_seq ?_
            refine co_seq ?_
            refine co_reg ?_
            refine pk0 (v := .int .i64 0) h928 rfl fun a929 h929 => ?_; clear h928
            refine pl_nil ?_
            refine co_then ?_
            refine wp_block ?_
            obtain ⟨bs930, hb_bs930⟩ : ∃ b, b = w683.heap.size := ⟨_, rfl⟩
            have hu931 : ∀ k, Value.ownBlock u1 = some k → k < bs930 := fun k hk => by have := (hf688.lt k hk).2; omega
            have h932 : Slots 168 [(2, .int .i64 n), (7, pt N6 0), (9, u650), (10, u1), (13, .slice none 0 0), (14, .int .i64 0)] _ := h929.sub ⟨rfl, rfl, rfl, rfl, rfl, rfl, trivial⟩; clear h929
            refine co_loop (fun mm a x => ∃ (jj : Nat) (u2 : Value), Slots 168 [(2, .int .i64 n), (7, pt N6 0), (9, u650), (10, u1), (13, u2), (14, .int .i64 ((jj : Nat) : Int))] a ∧ mm = ys649.length - jj ∧ (jj ≤ ys649.length) ∧ (bs930 ≤ x.heap.size) ∧ DObj w.heap.size x N6 (0 + i + (wrAll s0D (l1.take i)).ps.length + k) (wrAll (synS (wrAll s0D (l1.take i))) (l2.take k)) ∧ x.ownsRow w637.heap.size 3 1 u650 ys649.length (ys649.flatMap (intE .i64)) ∧ x.ownsRow w.heap.size 9 1 u1 ((ys649.take j).map (datF (synS (wrAll s0D (l1.take i))).fm)).length (((ys649.take j).map (datF (synS (wrAll s0D (l1.take i))).fm)).flatMap strE) ∧ x.ownsRow bs930 9 1 u2 ((ys649.take jj).map (datF (wrAll (synS (wrAll s0D (l1.take i))) (l2.take k)).fm)).length (((ys649.take jj).map (datF (wrAll (synS (wrAll s0D (l1.take i))) (l2.take k)).fm)).flatMap strE) ∧ Below w.heap.size w x) (ys649.length - 0) ?_ ?_
            · exact ⟨0, (.slice none 0 0), h932.sub ⟨rfl, rfl, rfl, rfl, rfl, (slot_eq rfl (congrArg (Value.int .i64) (by first | rfl | omega))), trivial⟩, rfl, by omega, by omega, (dk_eq hf686 (rfl) (by omega)), hf687, hf688, (row_nilL _ _ _ _ _), hB689⟩
            · rintro k933 a934 w935 ⟨jj, u2, h934, rfl, hi936, hi937, hf938, hf939, hf940, hf941, hB942⟩
              have hz943 := hB942.size
              have hml944 : ((ys649.take jj).map (datF (wrAll (synS (wrAll s0D (l1.take i))) (l2.take k)).fm)).length = jj := by rw [List.length_map, List.length_take]; omega
              refine co_seq ?_
              refine co_seq ?_
              refine co_reg ?_
              refine pk0 (v := .int .i64 ((jj : Nat) : Int)) h934 rfl fun a945 h945 => ?_; clear h934
              refine pk0 (v := u650) h945 rfl fun a946 h946 => ?_; clear h945
              refine pk (v := .int .i64 ((ys649.length : Nat) : Int)) h946 rfl (rn_lenOwn rfl rfl Try.underlying37 hf939) fun a947 h947 => ?_; clear h946
              refine pk0 (v := .bool (decide (((jj : Nat) : Int) < ((ys649.length : Nat) : Int)))) h947 rfl fun a948 h948 => ?_; clear h947
              refine pl_nil ?_
              refine co_then ?_
              cases hc949 : (decide (((jj : Nat) : Int) < ((ys649.length : Nat) : Int)))
              ·
               rw [hc949] at h948
               have hp950 : ¬ (((jj : Nat) : Int) < ((ys649.length : Nat) : Int)) := of_decide_eq_false hc949
               clear hc949
               refine co_false h948 rfl ?_
               refine wp_exit ?_
               refine co_thenX ?_
               refine co_thenX ?_
               refine co_blockX ?_
               refine co_then ?_
               refine co_seq ?_
               refine co_reg ?_
               refine pk0 (v := pt N6 0) h948 rfl fun a951 h951 => ?_; clear h948
               refine pw h951 rfl (op_call (args := #[pt N6 0]) (R := fun res xw => res = .int .i64 (sumP (wrAll (synS (wrAll s0D (l1.take i))) (l2.take k)).ps) ∧ DObj w.heap.size xw N6 (0 + i + (wrAll s0D (l1.take i)).ps.length + k) (wrAll (synS (wrAll s0D (l1.take i))) (l2.take k)) ∧ ButD w.heap.size w935 xw) rfl rfl rfl (by kernel_rfl) (by kernel_rfl) (Try.call24 _ _) (tPending w935 hf938 ((wrAll_I (wrAll_I s0_I hok1 i).sync.1 hok2 k).hsb (by omega))) (by rintro e x ⟨rfl, h1, h2⟩; exact ⟨_, rfl, rfl, h1, h2⟩)) ?_; clear h951
               rintro _ w953 a952 ⟨rfl, hd954, hx955⟩ h952
               have hz957 := hx955.size
               have hB956 := (hbD hB942 hx955)
               have hz958 := hB956.size
               refine pk0 (v := .int .i64 (sumP (wrAll (synS (wrAll s0D (l1.take i))) (l2.take k)).ps)) h952 rfl fun a959 h959 => ?_; clear h952
               refine pl_nil ?_
               refine co_then ?_
               refine co_seq ?_
               refine co_reg ?_
               refine pk0 (v := pt N6 0) h959 rfl fun a960 h960 => ?_; clear h959
               refine pk0 (v := .int .i64 n) h960 rfl fun a961 h961 => ?_; clear h960
               have hpl966 := (wrAll_I (wrAll_I s0_I hok1 i).sync.1 hok2 k).pl
               refine pw h961 rfl (op_call (args := #[pt N6 0, .int .i64 n]) (R := fun res xw => res = .tuple #[] ∧ DObj w.heap.size xw N6 (2 * (0 + i + (wrAll s0D (l1.take i)).ps.length + k) + 2 * (wrAll (synS (wrAll s0D (l1.take i))) (l2.take k)).ps.length) (crS (wrAll (synS (wrAll s0D (l1.take i))) (l2.take k)) n) ∧ ButD w.heap.size w953 xw) rfl rfl rfl (by kernel_rfl) (by kernel_rfl) (Try.call25 _ _) (tCrash w953 n hd954 (by omega) ((wrAll_I (wrAll_I s0_I hok1 i).sync.1 hok2 k).hpl (by omega)) (by rw [wrAll_boots]; show 0 ≤ (wrAll s0D _).boots ∧ (wrAll s0D _).boots ≤ _; rw [wrAll_boots]; decide) hni ((wrAll_I (wrAll_I s0_I hok1 i).sync.1 hok2 k).hcr (by omega) hni) (wrAll_I (wrAll_I s0_I hok1 i).sync.1 hok2 k).hfin) (by rintro e x ⟨rfl, h1, h2⟩; exact ⟨_, rfl, rfl, h1, h2⟩)) ?_; clear h961
               rintro _ w963 a962 ⟨rfl, hd964, hx965⟩ h962
               have hz968 := hx965.size
               have hB967 := (hbD hB956 hx965)
               have hz969 := hB967.size
               refine pl_nil ?_
               refine co_then ?_
               refine co_seq ?_
               refine co_reg ?_
               refine pk0 (v := .int .i64 0) h962 rfl fun a970 h970 => ?_; clear h962
               refine pl_nil ?_
               refine co_then ?_
               refine co_seq ?_
               refine co_seq ?_
               refine co_reg ?_
               refine pk0 (v := .int .i64 0) h970 rfl fun a971 h971 => ?_; clear h970
               refine pl_nil ?_
               refine co_then ?_
               refine wp_block ?_
               have h972 : Slots 168 [(2, .int .i64 n), (7, pt N6 0), (9, u650), (10, u1), (13, u2), (15, .int .i64 (sumP (wrAll (synS (wrAll s0D (l1.take i))) (l2.take k)).ps)), (16, .int .i64 0), (17, .int .i64 0)] _ := h971.sub ⟨rfl, rfl, rfl, rfl, rfl, rfl, rfl, rfl, trivial⟩; clear h971
               refine co_loop (fun mm a x => ∃ (q : Nat), Slots 168 [(2, .int .i64 n), (7, pt N6 0), (9, u650), (10, u1), (13, u2), (15, .int .i64 (sumP (wrAll (synS (wrAll s0D (l1.take i))) (l2.take k)).ps)), (16, .int .i64 (sumQ (sumK (keptL (mx0 n) (wrAll (synS (wrAll s0D (l1.take i))) (l2.take k)).ps)) (ys649.take q))), (17, .int .i64 ((q : Nat) : Int))] a ∧ mm = ys649.length - q ∧ (q ≤ ys649.length) ∧ DObj w.heap.size x N6 (2 * (0 + i + (wrAll s0D (l1.take i)).ps.length + k) + 2 * (wrAll (synS (wrAll s0D (l1.take i))) (l2.take k)).ps.length) (crS (wrAll (synS (wrAll s0D (l1.take i))) (l2.take k)) n) ∧ x.ownsRow w637.heap.size 3 1 u650 ys649.length (ys649.flatMap (intE .i64)) ∧ x.ownsRow w.heap.size 9 1 u1 ((ys649.take j).map (datF (synS (wrAll s0D (l1.take i))).fm)).length (((ys649.take j).map (datF (synS (wrAll s0D (l1.take i))).fm)).flatMap strE) ∧ x.ownsRow bs930 9 1 u2 ((ys649.take jj).map (datF (wrAll (synS (wrAll s0D (l1.take i))) (l2.take k)).fm)).length (((ys649.take jj).map (datF (wrAll (synS (wrAll s0D (l1.take i))) (l2.take k)).fm)).flatMap strE) ∧ Below w.heap.size w x) (ys649.length - 0) ?_ ?_
               have hr973 := rowD hf939 (by unfold offD; decide) hx955
               have hr974 := rowD hr973 (by unfold offD; decide) hx965
               have hr975 := rowD hf940 (by unfold offD; decide) hx955
               have hr976 := rowD hr975 (by unfold offD; decide) hx965
               have hr977 := rowD hf941 (by unfold offD; decide) hx955
               have hr978 := rowD hr977 (by unfold offD; decide) hx965
               · exact ⟨0, h972.sub ⟨rfl, rfl, rfl, rfl, rfl, rfl, (slot_eq rfl (congrArg (Value.int .i64) (by first | rfl | (rw [hqa]; omega)))), (slot_eq rfl (congrArg (Value.int .i64) (by first | rfl | omega))), trivial⟩, rfl, by omega, (dk_eq hd964 (rfl) (by omega)), hr974, hr976, hr978, hB967⟩
               · rintro k979 a980 w981 ⟨q, h980, rfl, hi982, hf983, hf984, hf985, hf986, hB987⟩
                 have hz988 := hB987.size
                 have hsq := sumQ_takes hK652.1 (wrAll_I (wrAll_I s0_I hok1 i).sync.1 hok2 k) n q; have hsq1 := sumQ_takes hK652.1 (wrAll_I (wrAll_I s0_I hok1 i).sync.1 hok2 k) n (q + 1)
                 have hmx0 : mx0 n ≤ 9223372036854775807 := by unfold mx0; split <;> omega
                 refine co_seq ?_
                 refine co_seq ?_
                 refine co_reg ?_
                 refine pk0 (v := .int .i64 ((q : Nat) : Int)) h980 rfl fun a989 h989 => ?_; clear h980
                 refine pk0 (v := u650) h989 rfl fun a990 h990 => ?_; clear h989
                 refine pk (v := .int .i64 ((ys649.length : Nat) : Int)) h990 rfl (rn_lenOwn rfl rfl Try.underlying37 hf984) fun a991 h991 => ?_; clear h990
                 refine pk0 (v := .bool (decide (((q : Nat) : Int) < ((ys649.length : Nat) : Int)))) h991 rfl fun a992 h992 => ?_; clear h991
                 refine pl_nil ?_
                 refine co_then ?_
                 cases hc993 : (decide (((q : Nat) : Int) < ((ys649.length : Nat) : Int)))
                 ·
                  rw [hc993] at h992
                  have hp994 : ¬ (((q : Nat) : Int) < ((ys649.length : Nat) : Int)) := of_decide_eq_false hc993
                  clear hc993
                  refine co_false h992 rfl ?_
                  refine wp_exit ?_
                  refine co_thenX ?_
                  refine co_thenX ?_
                  refine co_blockX ?_
                  refine co_then ?_
                  refine co_seq ?_
                  refine co_reg ?_
                  refine pk0 (v := .int .i64 (sumQ (sumK (keptL (mx0 n) (wrAll (synS (wrAll s0D (l1.take i))) (l2.take k)).ps)) (ys649.take q))) h992 rfl fun a995 h995 => ?_; clear h992
                  refine pk0 (v := .int .i64 n) h995 rfl fun a996 h996 => ?_; clear h995
                  obtain ⟨kp997, hkp998⟩ : ∃ z : Int, z = (if n < 0 then 0 else n) := ⟨_, rfl⟩
                  have hq999 : kp997 ≥ n ∧ kp997 ≥ 0 ∧ (kp997 = n ∨ kp997 = 0) := by rw [hkp998]; split <;> omega
                  refine pk (v := .int .i64 kp997) h996 rfl (by rw [hkp998]; kernel_rfl) fun a1000 h1000 => ?_; clear h996
                  refine pk0 (v := .int .i64 (sumP (wrAll (synS (wrAll s0D (l1.take i))) (l2.take k)).ps)) h1000 rfl fun a1001 h1001 => ?_; clear h1000
                  obtain ⟨kp1002, hkp1003⟩ : ∃ z : Int, z = (if sumP (wrAll (synS (wrAll s0D (l1.take i))) (l2.take k)).ps < kp997 then sumP (wrAll (synS (wrAll s0D (l1.take i))) (l2.take k)).ps else kp997) := ⟨_, rfl⟩
                  have hq1004 : kp1002 ≤ kp997 ∧ kp1002 ≤ sumP (wrAll (synS (wrAll s0D (l1.take i))) (l2.take k)).ps ∧ (kp1002 = kp997 ∨ kp1002 = sumP (wrAll (synS (wrAll s0D (l1.take i))) (l2.take k)).ps) := by rw [hkp1003]; split <;> omega
                  refine pk (v := .int .i64 kp1002) h1001 rfl (by rw [hkp1003]; kernel_rfl) fun a1005 h1005 => ?_; clear h1001
                  refine pk0 (v := .bool (decide (sumQ (sumK (keptL (mx0 n) (wrAll (synS (wrAll s0D (l1.take i))) (l2.take k)).ps)) (ys649.take q) ≤ kp1002))) h1005 rfl fun a1006 h1006 => ?_; clear h1005
                  refine pk0 (v := .bool (decide (sumQ (sumK (keptL (mx0 n) (wrAll (synS (wrAll s0D (l1.take i))) (l2.take k)).ps)) (ys649.take q) ≤ kp1002))) h1006 rfl fun a1007 h1007 => ?_; clear h1006
                  have hc1008 : (decide (sumQ (sumK (keptL (mx0 n) (wrAll (synS (wrAll s0D (l1.take i))) (l2.take k)).ps)) (ys649.take q) ≤ kp1002)) = true := by have e : mx0 n = kp997 := (by rw [hkp998]; rfl); exact decide_eq_true (by omega)
                  rw [hc1008] at h1007; clear hc1008
                  refine pk0 (v := pt N6 0) h1007 rfl fun a1009 h1009 => ?_; clear h1007
                  refine pw h1009 rfl (op_call (args := #[pt N6 0]) (R := fun res xw => res = .int .i64 (sumP (crS (wrAll (synS (wrAll s0D (l1.take i))) (l2.take k)) n).ps) ∧ DObj w.heap.size xw N6 (2 * (0 + i + (wrAll s0D (l1.take i)).ps.length + k) + 2 * (wrAll (synS (wrAll s0D (l1.take i))) (l2.take k)).ps.length) (crS (wrAll (synS (wrAll s0D (l1.take i))) (l2.take k)) n) ∧ ButD w.heap.size w981 xw) rfl rfl rfl (by kernel_rfl) (by kernel_rfl) (Try.call24 _ _) (tPending w981 hf983 (((wrAll_I (wrAll_I s0_I hok1 i).sync.1 hok2 k).crash n).hsb (by omega))) (by rintro e x ⟨rfl, h1, h2⟩; exact ⟨_, rfl, rfl, h1, h2⟩)) ?_; clear h1009
                  rintro _ w1011 a1010 ⟨rfl, hd1012, hx1013⟩ h1010
                  have hz1015 := hx1013.size
                  have hB1014 := (hbD hB987 hx1013)
                  have hz1016 := hB1014.size
                  refine pk0 (v := .bool (sumP (crS (wrAll (synS (wrAll s0D (l1.take i))) (l2.take k)) n).ps == 0)) h1010 rfl fun a1017 h1017 => ?_; clear h1010
                  refine pk0 (v := .bool (sumP (crS (wrAll (synS (wrAll s0D (l1.take i))) (l2.take k)) n).ps == 0)) h1017 rfl fun a1018 h1018 => ?_; clear h1017
                  refine pk0 (v := .bool (sumP (crS (wrAll (synS (wrAll s0D (l1.take i))) (l2.take k)) n).ps == 0)) h1018 rfl fun a1019 h1019 => ?_; clear h1018
                  have hc1020 : (sumP (crS (wrAll (synS (wrAll s0D (l1.take i))) (l2.take k)) n).ps == 0) = true := by rfl
                  rw [hc1020] at h1019; clear hc1020
                  refine pw h1019 rfl (op_call (args := #[]) (R := fun res xw => res = .bool true ∧ Below w1011.heap.size w1011 xw) rfl rfl rfl (by kernel_rfl) (by kernel_rfl) (Try.call20 _ _) (awake11  w1011 ) (by rintro e x ⟨rfl, hb1023⟩; exact ⟨_, rfl, ⟨rfl, hb1023⟩⟩)) ?_; clear h1019
                  rintro _ w1022 a1021 ⟨rfl, hb1023⟩ h1021
                  have hz1024 := hb1023.size
                  refine pk0 (v := .bool true) h1021 rfl fun a1025 h1025 => ?_; clear h1021
                  refine pk0 (v := .bool true) h1025 rfl fun a1026 h1026 => ?_; clear h1025
                  refine pl_nil ?_
                  refine co_then ?_
                  refine wp_ret ?_
                  refine co_ret1 h1026 rfl rfl ?_
                  have hB1027 := hb_call hB1014 hb1023
                  exact ⟨rfl, hB1027⟩
                 ·
                  rw [hc993] at h992
                  have hp1028 : ((q : Nat) : Int) < ((ys649.length : Nat) : Int) := of_decide_eq_true hc993
                  clear hc993
                  refine co_true h992 rfl ?_
                  refine wp_skip ?_
                  refine co_then ?_
                  refine co_seq ?_
                  refine wp_block ?_
                  refine co_seq ?_
                  refine co_reg ?_
                  refine pk0 (v := pt N6 0) h992 rfl fun a1029 h1029 => ?_; clear h992
                  refine pk0 (v := u650) h1029 rfl fun a1030 h1030 => ?_; clear h1029
                  refine pk0 (v := .int .i64 ((q : Nat) : Int)) h1030 rfl fun a1031 h1031 => ?_; clear h1030
                  obtain ⟨y1032, hy1032⟩ : ∃ z, ys649[q]? = some z := ⟨_, List.getElem?_eq_getElem (by first | omega | (simp; done) | (simp; omega))⟩
                  have oky1032 := (fun (z : Int) (_ : z ∈ ys649) => trivial) _ (List.mem_of_getElem? hy1032)
                  have hsa := safe_at (wrAll_I s0_I hok1 i) (wrAll_I (wrAll_I s0_I hok1 i).sync.1 hok2 k) n (((hK652).2 y1032).1 (List.mem_of_getElem? hy1032)); have hqa := sumQ_at (f := (sumK (keptL (mx0 n) (wrAll (synS (wrAll s0D (l1.take i))) (l2.take k)).ps))) hy1032
                  refine pk (v := pt (blkOf u650) (offOf u650 + q * 1)) h1031 rfl (rn_index rfl rfl rfl Try.underlying37 Try.sizeOf3 (row_sl hf984 (intE_len .i64)) (by omega) (by first | omega | (simp; done) | (simp; omega))) fun a1033 h1033 => ?_; clear h1031
                  refine pk (v := .int .i64 y1032) h1033 rfl (rn_load1 rfl rfl Try.isAgg3 ((sl_at (row_sl hf984 (intE_len .i64)) hy1032) 0 _ rfl)) fun a1034 h1034 => ?_; clear h1033
                  refine pw h1034 rfl (op_call (args := #[pt N6 0, .int .i64 y1032]) (R := fun res xw => ∃ sv : ByteArray, res = .string sv ∧ sv = datF (crS (wrAll (synS (wrAll s0D (l1.take i))) (l2.take k)) n).fm y1032 ∧ DObj w.heap.size xw N6 (2 * (0 + i + (wrAll s0D (l1.take i)).ps.length + k) + 2 * (wrAll (synS (wrAll s0D (l1.take i))) (l2.take k)).ps.length) (crS (wrAll (synS (wrAll s0D (l1.take i))) (l2.take k)) n) ∧ ButD w.heap.size w981 xw) rfl rfl rfl (by kernel_rfl) (by kernel_rfl) (Try.call19 _ _) (tData w981 y1032 hf983) (by rintro e x ⟨rfl, h1, h2⟩; exact ⟨_, rfl, _, rfl, rfl, h1, h2⟩)) ?_; clear h1034
                  rintro _ w1036 a1035 ⟨sv1039, rfl, hsv1040, hd1037, hx1038⟩ h1035
                  have hz1042 := hx1038.size
                  have hB1041 := (hbD hB987 hx1038)
                  have hz1043 := hB1041.size
                  have hq1044 : sv1039.size = (datF (crS (wrAll (synS (wrAll s0D (l1.take i))) (l2.take k)) n).fm y1032 : ByteArray).size := by rw [hsv1040]
                  refine pk0 (v := .string sv1039) h1035 rfl fun a1045 h1045 => ?_; clear h1035
                  refine pl_nil ?_
                  refine co_then ?_
                  refine co_seq ?_
                  refine co_seq ?_
                  refine co_reg ?_
                  refine pk0 (v := .string sv1039) h1045 rfl fun a1046 h1046 => ?_; clear h1045
                  refine pk (v := .int .i64 ((sv1039.size : Nat) : Int)) h1046 rfl (rn_lenStr rfl rfl Try.underlying9) fun a1047 h1047 => ?_; clear h1046
                  refine pk0 (v := u1) h1047 rfl fun a1048 h1048 => ?_; clear h1047
                  refine pk0 (v := .int .i64 ((q : Nat) : Int)) h1048 rfl fun a1049 h1049 => ?_; clear h1048
                  have hr1051 := rowD hf985 (by unfold offD; decide) hx1038
                  obtain ⟨y1050, hy1050⟩ : ∃ z, ((ys649.take j).map (datF (synS (wrAll s0D (l1.take i))).fm))[q]? = some z := ⟨_, List.getElem?_eq_getElem (by first | omega | (simp; done) | (simp; omega))⟩
                  have oky1050 := (fun (z : ByteArray) (_ : z ∈ (ys649.take j).map (datF (synS (wrAll s0D (l1.take i))).fm)) => trivial) _ (List.mem_of_getElem? hy1050)
                  have hmy1050 := map_get hy1032 (by omega) hy1050
                  have hzy1050 : y1050.size = (datF (synS (wrAll s0D (l1.take i))).fm y1032).size := by rw [hmy1050]
                  refine pk (v := pt (blkOf u1) (offOf u1 + q * 1)) h1049 rfl (rn_index rfl rfl rfl Try.underlying39 Try.sizeOf9 (row_sl hr1051 strE_lenD) (by omega) (by first | omega | (simp; done) | (simp; omega))) fun a1052 h1052 => ?_; clear h1049
                  refine pk (v := .string y1050) h1052 rfl (rn_load1 rfl rfl Try.isAgg9 ((sl_at (row_sl hr1051 strE_lenD) hy1050) 0 _ rfl)) fun a1053 h1053 => ?_; clear h1052
                  refine pk (v := .int .i64 ((y1050.size : Nat) : Int)) h1053 rfl (rn_lenStr rfl rfl Try.underlying9) fun a1054 h1054 => ?_; clear h1053
                  refine pk0 (v := .bool (decide (((sv1039.size : Nat) : Int) < ((y1050.size : Nat) : Int)))) h1054 rfl fun a1055 h1055 => ?_; clear h1054
                  refine pk0 (v := .bool (decide (((sv1039.size : Nat) : Int) < ((y1050.size : Nat) : Int)))) h1055 rfl fun a1056 h1056 => ?_; clear h1055
                  have hc1057 : (decide (((sv1039.size : Nat) : Int) < ((y1050.size : Nat) : Int))) = false := decide_eq_false (by omega)
                  rw [hc1057] at h1056; clear hc1057
                  refine pk0 (v := .string sv1039) h1056 rfl fun a1058 h1058 => ?_; clear h1056
                  refine pk (v := .int .i64 ((sv1039.size : Nat) : Int)) h1058 rfl (rn_lenStr rfl rfl Try.underlying9) fun a1059 h1059 => ?_; clear h1058
                  refine pk0 (v := u2) h1059 rfl fun a1060 h1060 => ?_; clear h1059
                  refine pk0 (v := .int .i64 ((q : Nat) : Int)) h1060 rfl fun a1061 h1061 => ?_; clear h1060
                  have hr1063 := rowD hf986 (by unfold offD; decide) hx1038
                  obtain ⟨y1062, hy1062⟩ : ∃ z, ((ys649.take jj).map (datF (wrAll (synS (wrAll s0D (l1.take i))) (l2.take k)).fm))[q]? = some z := ⟨_, List.getElem?_eq_getElem (by first | omega | (simp; done) | (simp; omega))⟩
                  have oky1062 := (fun (z : ByteArray) (_ : z ∈ (ys649.take jj).map (datF (wrAll (synS (wrAll s0D (l1.take i))) (l2.take k)).fm)) => trivial) _ (List.mem_of_getElem? hy1062)
                  have hmy1062 := map_get hy1032 (by omega) hy1062
                  have hzy1062 : y1062.size = (datF (wrAll (synS (wrAll s0D (l1.take i))) (l2.take k)).fm y1032).size := by rw [hmy1062]
                  refine pk (v := pt (blkOf u2) (offOf u2 + q * 1)) h1061 rfl (rn_index rfl rfl rfl Try.underlying39 Try.sizeOf9 (row_sl hr1063 strE_lenD) (by omega) (by first | omega | (simp; done) | (simp; omega))) fun a1064 h1064 => ?_; clear h1061
                  refine pk (v := .string y1062) h1064 rfl (rn_load1 rfl rfl Try.isAgg9 ((sl_at (row_sl hr1063 strE_lenD) hy1062) 0 _ rfl)) fun a1065 h1065 => ?_; clear h1064
                  refine pk (v := .int .i64 ((y1062.size : Nat) : Int)) h1065 rfl (rn_lenStr rfl rfl Try.underlying9) fun a1066 h1066 => ?_; clear h1065
                  refine pk0 (v := .bool (decide (((sv1039.size : Nat) : Int) > ((y1062.size : Nat) : Int)))) h1066 rfl fun a1067 h1067 => ?_; clear h1066
                  refine pk0 (v := .bool (decide (((sv1039.size : Nat) : Int) > ((y1062.size : Nat) : Int)))) h1067 rfl fun a1068 h1068 => ?_; clear h1067
                  refine pk0 (v := .bool (decide (((sv1039.size : Nat) : Int) > ((y1062.size : Nat) : Int)))) h1068 rfl fun a1069 h1069 => ?_; clear h1068
                  have hc1070 : (decide (((sv1039.size : Nat) : Int) > ((y1062.size : Nat) : Int))) = false := decide_eq_false (by omega)
                  rw [hc1070] at h1069; clear hc1070
                  refine pk0 (v := .string sv1039) h1069 rfl fun a1071 h1071 => ?_; clear h1069
                  refine pk0 (v := u2) h1071 rfl fun a1072 h1072 => ?_; clear h1071
                  refine pk0 (v := .int .i64 ((q : Nat) : Int)) h1072 rfl fun a1073 h1073 => ?_; clear h1072
                  refine pk (v := pt (blkOf u2) (offOf u2 + q * 1)) h1073 rfl (rn_index rfl rfl rfl Try.underlying39 Try.sizeOf9 (row_sl hr1063 strE_lenD) (by omega) (by first | omega | (simp; done) | (simp; omega))) fun a1074 h1074 => ?_; clear h1073
                  refine pk (v := .string y1062) h1074 rfl (rn_load1 rfl rfl Try.isAgg9 ((sl_at (row_sl hr1063 strE_lenD) hy1062) 0 _ rfl)) fun a1075 h1075 => ?_; clear h1074
                  refine pk0 (v := .string sv1039) h1075 rfl fun a1076 h1076 => ?_; clear h1075
                  refine pk (v := .int .i64 ((sv1039.size : Nat) : Int)) h1076 rfl (rn_lenStr rfl rfl Try.underlying9) fun a1077 h1077 => ?_; clear h1076
                  refine pk (v := .string (y1062.extract 0 sv1039.size)) h1077 rfl (rn_sliceStrTo (j := sv1039.size) rfl rfl rfl Try.underlying9 (by omega) (by omega)) fun a1078 h1078 => ?_; clear h1077
                  refine pk0 (v := .bool (!(sv1039.toList == (y1062.extract 0 sv1039.size : ByteArray).toList))) h1078 rfl fun a1079 h1079 => ?_; clear h1078
                  refine pk0 (v := .bool (!(sv1039.toList == (y1062.extract 0 sv1039.size : ByteArray).toList))) h1079 rfl fun a1080 h1080 => ?_; clear h1079
                  refine pl_nil ?_
                  refine co_then ?_
                  have hc1081 : (!(sv1039.toList == (y1062.extract 0 sv1039.size : ByteArray).toList)) = false := by have hpx := hsa.2.2.2.1; rw [← hmy1062, ← hsv1040] at hpx; rw [← hpx]; simp
                  rw [hc1081] at h1080; clear hc1081
                  refine co_false h1080 rfl ?_
                  refine wp_skip ?_
                  refine co_then ?_
                  refine co_reg ?_
                  refine pk0 (v := .int .i64 (sumQ (sumK (keptL (mx0 n) (wrAll (synS (wrAll s0D (l1.take i))) (l2.take k)).ps)) (ys649.take q))) h1080 rfl fun a1082 h1082 => ?_; clear h1080
                  refine pk0 (v := .string sv1039) h1082 rfl fun a1083 h1083 => ?_; clear h1082
                  refine pk (v := .int .i64 ((sv1039.size : Nat) : Int)) h1083 rfl (rn_lenStr rfl rfl Try.underlying9) fun a1084 h1084 => ?_; clear h1083
                  refine pk (v := .int .i64 ((sumQ (sumK (keptL (mx0 n) (wrAll (synS (wrAll s0D (l1.take i))) (l2.take k)).ps)) (ys649.take q)) + ((sv1039.size : Nat) : Int))) h1084 rfl (rn_arith rfl rfl rfl rfl rfl rfl (IntWalk.i64_in _ (by omega))) fun a1085 h1085 => ?_; clear h1084
                  refine pk0 (v := u1) h1085 rfl fun a1086 h1086 => ?_; clear h1085
                  refine pk0 (v := .int .i64 ((q : Nat) : Int)) h1086 rfl fun a1087 h1087 => ?_; clear h1086
                  refine pk (v := pt (blkOf u1) (offOf u1 + q * 1)) h1087 rfl (rn_index rfl rfl rfl Try.underlying39 Try.sizeOf9 (row_sl hr1051 strE_lenD) (by omega) (by first | omega | (simp; done) | (simp; omega))) fun a1088 h1088 => ?_; clear h1087
                  refine pk (v := .string y1050) h1088 rfl (rn_load1 rfl rfl Try.isAgg9 ((sl_at (row_sl hr1051 strE_lenD) hy1050) 0 _ rfl)) fun a1089 h1089 => ?_; clear h1088
                  refine pk (v := .int .i64 ((y1050.size : Nat) : Int)) h1089 rfl (rn_lenStr rfl rfl Try.underlying9) fun a1090 h1090 => ?_; clear h1089
                  refine pk (v := .int .i64 (((sumQ (sumK (keptL (mx0 n) (wrAll (synS (wrAll s0D (l1.take i))) (l2.take k)).ps)) (ys649.take q)) + ((sv1039.size : Nat) : Int)) - ((y1050.size : Nat) : Int))) h1090 rfl (rn_arith rfl rfl rfl rfl rfl rfl (IntWalk.i64_in _ (by omega))) fun a1091 h1091 => ?_; clear h1090
                  refine pk0 (v := .int .i64 (((sumQ (sumK (keptL (mx0 n) (wrAll (synS (wrAll s0D (l1.take i))) (l2.take k)).ps)) (ys649.take q)) + ((sv1039.size : Nat) : Int)) - ((y1050.size : Nat) : Int))) h1091 rfl fun a1092 h1092 => ?_; clear h1091
                  refine pl_nil ?_
                  refine co_blockN ?_
                  refine co_then ?_
                  refine co_reg ?_
                  refine pk0 (v := .int .i64 ((q : Nat) : Int)) h1092 rfl fun a1093 h1093 => ?_; clear h1092
                  refine pk (v := .int .i64 ((q + 1 : Nat) : Int)) h1093 rfl (rn_arith' rfl rfl rfl rfl rfl rfl (IntWalk.i64_in _ (by omega)) (by omega)) fun a1094 h1094 => ?_; clear h1093
                  refine pk0 (v := .int .i64 ((q + 1 : Nat) : Int)) h1094 rfl fun a1095 h1095 => ?_; clear h1094
                  refine pl_nil ?_
                  refine co_then ?_
                  refine ⟨(ys649.length - (q + 1)), by omega, ?_⟩
                  have hr1096 := rowD hf984 (by unfold offD; decide) hx1038
                  exact ⟨q + 1, h1095.sub ⟨rfl, rfl, rfl, rfl, rfl, rfl, (slot_eq rfl (congrArg (Value.int .i64) (by first | rfl | (rw [hqa]; omega)))), rfl, trivial⟩, rfl, by omega, (dk_eq hd1037 (rfl) (by omega)), hr1096, hr1051, hr1063, hB1041⟩
              ·
               rw [hc949] at h948
               have hp1097 : ((jj : Nat) : Int) < ((ys649.length : Nat) : Int) := of_decide_eq_true hc949
               clear hc949
               refine co_true h948 rfl ?_
               refine wp_skip ?_
               refine co_then ?_
               refine co_seq ?_
               refine wp_block ?_
               refine co_reg ?_
               refine pk0 (v := u2) h948 rfl fun a1098 h1098 => ?_; clear h948
               refine pk0 (v := pt N6 0) h1098 rfl fun a1099 h1099 => ?_; clear h1098
               refine pk0 (v := u650) h1099 rfl fun a1100 h1100 => ?_; clear h1099
               refine pk0 (v := .int .i64 ((jj : Nat) : Int)) h1100 rfl fun a1101 h1101 => ?_; clear h1100
               obtain ⟨y1102, hy1102⟩ : ∃ z, ys649[jj]? = some z := ⟨_, List.getElem?_eq_getElem (by first | omega | (simp; done) | (simp; omega))⟩
               refine pk (v := pt (blkOf u650) (offOf u650 + jj * 1)) h1101 rfl (rn_index rfl rfl rfl Try.underlying37 Try.sizeOf3 (row_sl hf939 (intE_len .i64)) (by omega) (by first | omega | (simp; done) | (simp; omega))) fun a1103 h1103 => ?_; clear h1101
               refine pk (v := .int .i64 y1102) h1103 rfl (rn_load1 rfl rfl Try.isAgg3 ((sl_at (row_sl hf939 (intE_len .i64)) hy1102) 0 _ rfl)) fun a1104 h1104 => ?_; clear h1103
               refine pw h1104 rfl (op_call (args := #[pt N6 0, .int .i64 y1102]) (R := fun res xw => ∃ sv : ByteArray, res = .string sv ∧ sv = datF (wrAll (synS (wrAll s0D (l1.take i))) (l2.take k)).fm y1102 ∧ DObj w.heap.size xw N6 (0 + i + (wrAll s0D (l1.take i)).ps.length + k) (wrAll (synS (wrAll s0D (l1.take i))) (l2.take k)) ∧ ButD w.heap.size w935 xw) rfl rfl rfl (by kernel_rfl) (by kernel_rfl) (Try.call19 _ _) (tData w935 y1102 hf938) (by rintro e x ⟨rfl, h1, h2⟩; exact ⟨_, rfl, _, rfl, rfl, h1, h2⟩)) ?_; clear h1104
               rintro _ w1106 a1105 ⟨sv1109, rfl, hsv1110, hd1107, hx1108⟩ h1105
               have hz1112 := hx1108.size
               have hB1111 := (hbD hB942 hx1108)
               have hz1113 := hB1111.size
               have hq1114 : sv1109.size = (datF (wrAll (synS (wrAll s0D (l1.take i))) (l2.take k)).fm y1102 : ByteArray).size := by rw [hsv1110]
               refine pw h1105 rfl (op_new (v := fun N => .slice (some ⟨N, 0, none⟩) 1 1) (T := 9) (cs := #[.string sv1109]) (by kernel_rfl) (by kernel_rfl) (by kernel_rfl)) ?_; clear h1105
               rintro _ w1116 a1115 ⟨N1117, rfl, hN1120, hz1121, hk1119, hg1118⟩ h1115
               have hr1123 := rowD hf939 (by unfold offD; decide) hx1108
               have ha1122 := row_fresh hr1123 hN1120
               have hr1125 := rowD hf940 (by unfold offD; decide) hx1108
               have ha1124 := row_fresh hr1125 hN1120
               have hr1127 := rowD hf941 (by unfold offD; decide) hx1108
               have ha1126 := row_fresh hr1127 hN1120
               have hz1128 := hg1118.size
               try dsimp only at h1115
               have hr1135 := row_kept_new hr1127 hg1118
               refine pw h1115 rfl (op_append rfl bs930 9 (z := .string (⟨#[]⟩)) (size := 1) (bytes := 16) Try.underlying39 (by kernel_rfl) rfl rfl rfl hr1135 rfl hk1119 rfl (by kernel_rfl) (by first | omega | (simp only [List.length_nil, List.length_append, List.length_cons, List.length_take, List.length_drop]; omega)) (by first | omega | (simp only [List.length_nil, List.length_append, List.length_cons, List.length_take, List.length_drop]; omega)) (by omega)) ?_; clear h1115
               rintro v1131 w1130 a1129 ⟨hr1132, hg1133⟩ h1129
               have hr1132' : w1130.ownsRow bs930 9 1 v1131 (((ys649.take jj).map (datF (wrAll (synS (wrAll s0D (l1.take i))) (l2.take k)).fm) ++ [sv1109]).length) (((ys649.take jj).map (datF (wrAll (synS (wrAll s0D (l1.take i))) (l2.take k)).fm) ++ [sv1109]).flatMap strE) := row_push (y := sv1109) hr1132 rfl rfl; clear hr1132
               have hz1136 := hg1133.size
               refine pk0 (v := v1131) h1129 rfl fun a1137 h1137 => ?_; clear h1129
               refine pl_nil ?_
               refine co_blockN ?_
               refine co_then ?_
               refine co_reg ?_
               refine pk0 (v := .int .i64 ((jj : Nat) : Int)) h1137 rfl fun a1138 h1138 => ?_; clear h1137
               refine pk (v := .int .i64 ((jj + 1 : Nat) : Int)) h1138 rfl (rn_arith' rfl rfl rfl rfl rfl rfl (IntWalk.i64_in _ (by omega)) (by omega)) fun a1139 h1139 => ?_; clear h1138
               refine pk0 (v := .int .i64 ((jj + 1 : Nat) : Int)) h1139 rfl fun a1140 h1140 => ?_; clear h1139
               refine pl_nil ?_
               refine co_then ?_
               refine ⟨(ys649.length - (jj + 1)), by omega, ?_⟩
               have hd1141 := hd1107.new hg1118
               have hd1142 := hd1141.row hr1135 (by unfold offD; decide) hg1133
               have hr1143 := row_kept_new hr1123 hg1118
               have hr1144 := row_kept_row hr1143 hr1135 hg1133 (by decide)
               have hr1145 := row_kept_new hr1125 hg1118
               have hr1146 := row_kept_ap hr1145 hr1135 hu931 hg1133
               have hB1147 := hb_new hB1111 hg1118
               have hB1148 := hb_row hB1147 hr1135 (by omega) hg1133
               exact ⟨jj + 1, v1131, h1140.sub ⟨rfl, rfl, rfl, rfl, rfl, rfl, trivial⟩, rfl, by omega, by omega, (dk_eq hd1142 (rfl) (by omega)), hr1144, hr1146, (row_eq hr1132' (by first | rfl | (rw [hsv1110]; exact map_at (by assumption)))), hB1148⟩
           ·
            rw [hc926] at h925
            have hp1149 : ((k : Nat) : Int) < 30 := of_decide_eq_true hc926
            clear hc926
            refine co_true h925 rfl ?_
            refine wp_skip ?_
            refine co_then ?_
            refine co_seq ?_
            refine wp_block ?_
            refine dr_gen (fun x => Below w.heap.size w x) (by kernel_rfl) (fun w1150 hg1151 => ?_) (fun w1150 hg1151 => ?_)
            ·
             have hz1152 := hg1151.size
             have hB1153 := hb_new hB689 hg1151
             exact hB1153
            have hz1154 := hg1151.size
            have hB1155 := hb_new hB689 hg1151
            refine dk0 0 (v := pt N6 0) h925 rfl rfl hB1155 fun a1156 h1156 => ?_; clear h925
            refine dk0 1 (v := v2) h1156 rfl rfl hB1155 fun a1157 h1157 => ?_; clear h1156
            refine dk0 2 (v := .int .i64 ((k : Nat) : Int)) h1157 rfl rfl hB1155 fun a1158 h1158 => ?_; clear h1157
            obtain ⟨y1159, hy1159⟩ : ∃ z, l2[k]? = some z := ⟨_, List.getElem?_eq_getElem (by first | omega | (simp; done) | (simp; omega))⟩
            have oky1159 := hok2 _ (List.mem_of_getElem? hy1159)
            have k1160 : -9223372036854775808 ≤ y1159.2.1 ∧ y1159.2.1 ≤ 9223372036854775807 := oky1159.1
            have k1161 : y1159.2.2.1.size ≤ 1048576 := oky1159.2.1
            refine dk 3 (v := pt (blkOf v2) (offOf v2 + k * 4)) h1158 rfl rfl hB1155 (fun x hx => (rn_index rfl rfl rfl Try.underlying22 Try.sizeOf29 (hs2.below hx) (by omega) (by first | omega | (simp; done) | (simp; omega)))) fun a1162 h1162 => ?_; clear h1158
            refine dk0 4 (v := pt (blkOf v2) (offOf v2 + k * 4 + 1)) h1162 rfl rfl hB1155 fun a1163 h1163 => ?_; clear h1162
            refine dk 5 (v := .int .i64 y1159.2.1) h1163 rfl rfl hB1155 (fun x hx => (rn_load1 rfl rfl Try.isAgg3 ((sl_at (hs2.below hx) hy1159) 1 _ rfl))) fun a1164 h1164 => ?_; clear h1163
            refine dk0 6 (v := v2) h1164 rfl rfl hB1155 fun a1165 h1165 => ?_; clear h1164
            refine dk0 7 (v := .int .i64 ((k : Nat) : Int)) h1165 rfl rfl hB1155 fun a1166 h1166 => ?_; clear h1165
            refine dk 8 (v := pt (blkOf v2) (offOf v2 + k * 4)) h1166 rfl rfl hB1155 (fun x hx => (rn_index rfl rfl rfl Try.underlying22 Try.sizeOf29 (hs2.below hx) (by omega) (by first | omega | (simp; done) | (simp; omega)))) fun a1167 h1167 => ?_; clear h1166
            refine dk0 9 (v := pt (blkOf v2) (offOf v2 + k * 4 + 2)) h1167 rfl rfl hB1155 fun a1168 h1168 => ?_; clear h1167
            refine dk 10 (v := .string y1159.2.2.1) h1168 rfl rfl hB1155 (fun x hx => (rn_load1 rfl rfl Try.isAgg9 ((sl_at (hs2.below hx) hy1159) 2 _ rfl))) fun a1169 h1169 => ?_; clear h1168
            have hd1174 := hf686.new hg1151
            refine d1 11 h1169 rfl rfl (op_call (args := #[pt N6 0, .int .i64 y1159.2.1, .string y1159.2.2.1]) (R := fun res xw => res = .int .i64 (wrE y1159.2.1) ∧ DObj w.heap.size xw N6 (0 + i + (wrAll s0D (l1.take i)).ps.length + k + 1) (wrS (wrAll (synS (wrAll s0D (l1.take i))) (l2.take k)) y1159.2.1 y1159.2.2.1) ∧ ButD w.heap.size w1150 xw) rfl rfl rfl (by kernel_rfl) (by kernel_rfl) (Try.call21 _ _) (tWrite w1150 y1159.2.1 y1159.2.2.1 hd1174 ((wrAll_I (wrAll_I s0_I hok1 i).sync.1 hok2 k).hsz (by omega) y1159.2.1 oky1159.2.1) ((wrAll_I (wrAll_I s0_I hok1 i).sync.1 hok2 k).hpl (by omega))) (by rintro e x ⟨rfl, h1, h2⟩; exact ⟨_, rfl, rfl, h1, h2⟩)) ?_ ?_; clear h1169
            ·
             rintro _ w1171 ⟨rfl, hd1172, hx1173⟩
             have hz1176 := hx1173.size
             have hB1175 := (hbD hB1155 hx1173)
             have hz1177 := hB1175.size
             exact hB1175
            rintro _ w1171 a1170 ⟨rfl, hd1172, hx1173⟩ h1170
            have hz1176 := hx1173.size
            have hB1175 := (hbD hB1155 hx1173)
            have hz1177 := hB1175.size
            refine dr_done (by kernel_rfl) ?_
            refine co_blockN ?_
            refine co_then ?_
            refine co_reg ?_
            refine pk0 (v := .int .i64 ((k : Nat) : Int)) h1170 rfl fun a1178 h1178 => ?_; clear h1170
            refine pk (v := .int .i64 ((k + 1 : Nat) : Int)) h1178 rfl (rn_arith' rfl rfl rfl rfl rfl rfl (IntWalk.i64_in _ (by omega)) (by omega)) fun a1179 h1179 => ?_; clear h1178
            refine pk0 (v := .int .i64 ((k + 1 : Nat) : Int)) h1179 rfl fun a1180 h1180 => ?_; clear h1179
            refine pl_nil ?_
            refine co_then ?_
            refine ⟨(l2.length - (k + 1)), by omega, ?_⟩
            have hr1181 := row_kept_new hf687 hg1151
            have hr1182 := rowD hr1181 (by unfold offD; decide) hx1173
            have hr1183 := row_kept_new hf688 hg1151
            have hr1184 := rowD hr1183 (by unfold offD; decide) hx1173
            exact ⟨k + 1, h1180.sub ⟨rfl, rfl, rfl, rfl, rfl, rfl, trivial⟩, rfl, by omega, by omega, (dk_eq hd1172 (by first | rfl | exact (wrAll_at (by assumption)).symm) (by omega)), hr1182, hr1184, hB1175⟩
       ·
        rw [hc677] at h676
        have hp1185 : ((j : Nat) : Int) < ((ys649.length : Nat) : Int) := of_decide_eq_true hc677
        clear hc677
        refine co_true h676 rfl ?_
        refine wp_skip ?_
        refine co_then ?_
        refine co_seq ?_
        refine wp_block ?_
        refine co_reg ?_
        refine pk0 (v := u1) h676 rfl fun a1186 h1186 => ?_; clear h676
        refine pk0 (v := pt N6 0) h1186 rfl fun a1187 h1187 => ?_; clear h1186
        refine pk0 (v := u650) h1187 rfl fun a1188 h1188 => ?_; clear h1187
        refine pk0 (v := .int .i64 ((j : Nat) : Int)) h1188 rfl fun a1189 h1189 => ?_; clear h1188
        obtain ⟨y1190, hy1190⟩ : ∃ z, ys649[j]? = some z := ⟨_, List.getElem?_eq_getElem (by first | omega | (simp; done) | (simp; omega))⟩
        refine pk (v := pt (blkOf u650) (offOf u650 + j * 1)) h1189 rfl (rn_index rfl rfl rfl Try.underlying37 Try.sizeOf3 (row_sl hf668 (intE_len .i64)) (by omega) (by first | omega | (simp; done) | (simp; omega))) fun a1191 h1191 => ?_; clear h1189
        refine pk (v := .int .i64 y1190) h1191 rfl (rn_load1 rfl rfl Try.isAgg3 ((sl_at (row_sl hf668 (intE_len .i64)) hy1190) 0 _ rfl)) fun a1192 h1192 => ?_; clear h1191
        refine pw h1192 rfl (op_call (args := #[pt N6 0, .int .i64 y1190]) (R := fun res xw => ∃ sv : ByteArray, res = .string sv ∧ sv = datF (synS (wrAll s0D (l1.take i))).fm y1190 ∧ DObj w.heap.size xw N6 (0 + i + (wrAll s0D (l1.take i)).ps.length) (synS (wrAll s0D (l1.take i))) ∧ ButD w.heap.size w664 xw) rfl rfl rfl (by kernel_rfl) (by kernel_rfl) (Try.call19 _ _) (tData w664 y1190 hf667) (by rintro e x ⟨rfl, h1, h2⟩; exact ⟨_, rfl, _, rfl, rfl, h1, h2⟩)) ?_; clear h1192
        rintro _ w1194 a1193 ⟨sv1197, rfl, hsv1198, hd1195, hx1196⟩ h1193
        have hz1200 := hx1196.size
        have hB1199 := (hbD hB670 hx1196)
        have hz1201 := hB1199.size
        have hq1202 : sv1197.size = (datF (synS (wrAll s0D (l1.take i))).fm y1190 : ByteArray).size := by rw [hsv1198]
        refine pw h1193 rfl (op_new (v := fun N => .slice (some ⟨N, 0, none⟩) 1 1) (T := 9) (cs := #[.string sv1197]) (by kernel_rfl) (by kernel_rfl) (by kernel_rfl)) ?_; clear h1193
        rintro _ w1204 a1203 ⟨N1205, rfl, hN1208, hz1209, hk1207, hg1206⟩ h1203
        have hr1211 := rowD hf668 (by unfold offD; decide) hx1196
        have ha1210 := row_fresh hr1211 hN1208
        have hr1213 := rowD hf669 (by unfold offD; decide) hx1196
        have ha1212 := row_fresh hr1213 hN1208
        have hz1214 := hg1206.size
        try dsimp only at h1203
        have hr1221 := row_kept_new hr1213 hg1206
        refine pw h1203 rfl (op_append rfl w.heap.size 9 (z := .string (⟨#[]⟩)) (size := 1) (bytes := 16) Try.underlying39 (by kernel_rfl) rfl rfl rfl hr1221 rfl hk1207 rfl (by kernel_rfl) (by first | omega | (simp only [List.length_nil, List.length_append, List.length_cons, List.length_take, List.length_drop]; omega)) (by first | omega | (simp only [List.length_nil, List.length_append, List.length_cons, List.length_take, List.length_drop]; omega)) (by omega)) ?_; clear h1203
        rintro v1217 w1216 a1215 ⟨hr1218, hg1219⟩ h1215
        have hr1218' : w1216.ownsRow w.heap.size 9 1 v1217 (((ys649.take j).map (datF (synS (wrAll s0D (l1.take i))).fm) ++ [sv1197]).length) (((ys649.take j).map (datF (synS (wrAll s0D (l1.take i))).fm) ++ [sv1197]).flatMap strE) := row_push (y := sv1197) hr1218 rfl rfl; clear hr1218
        have hz1222 := hg1219.size
        refine pk0 (v := v1217) h1215 rfl fun a1223 h1223 => ?_; clear h1215
        refine pl_nil ?_
        refine co_blockN ?_
        refine co_then ?_
        refine co_reg ?_
        refine pk0 (v := .int .i64 ((j : Nat) : Int)) h1223 rfl fun a1224 h1224 => ?_; clear h1223
        refine pk (v := .int .i64 ((j + 1 : Nat) : Int)) h1224 rfl (rn_arith' rfl rfl rfl rfl rfl rfl (IntWalk.i64_in _ (by omega)) (by omega)) fun a1225 h1225 => ?_; clear h1224
        refine pk0 (v := .int .i64 ((j + 1 : Nat) : Int)) h1225 rfl fun a1226 h1226 => ?_; clear h1225
        refine pl_nil ?_
        refine co_then ?_
        refine ⟨(ys649.length - (j + 1)), by omega, ?_⟩
        have hd1227 := hd1195.new hg1206
        have hd1228 := hd1227.row hr1221 (by unfold offD; decide) hg1219
        have hr1229 := row_kept_new hr1211 hg1206
        have hr1230 := row_kept_row hr1229 hr1221 hg1219 (by decide)
        have hB1231 := hb_new hB1199 hg1206
        have hB1232 := hb_row hB1231 hr1221 (by omega) hg1219
        exact ⟨j + 1, v1217, h1226.sub ⟨rfl, rfl, rfl, rfl, rfl, rfl, trivial⟩, rfl, by omega, by omega, (dk_eq hd1228 (rfl) (by omega)), hr1230, (row_eq hr1218' (by first | rfl | (rw [hsv1198]; exact map_at (by assumption)))), hB1232⟩
    ·
     rw [hc633] at h632
     have hp1233 : ((i : Nat) : Int) < 30 := of_decide_eq_true hc633
     clear hc633
     refine co_true h632 rfl ?_
     refine wp_skip ?_
     refine co_then ?_
     refine co_seq ?_
     refine wp_block ?_
     refine dr_gen (fun x => Below w.heap.size w x) (by kernel_rfl) (fun w1234 hg1235 => ?_) (fun w1234 hg1235 => ?_)
     ·
      have hz1236 := hg1235.size
      have hB1237 := hb_new hB19 hg1235
      exact hB1237
     have hz1238 := hg1235.size
     have hB1239 := hb_new hB19 hg1235
     refine dk0 0 (v := pt N6 0) h632 rfl rfl hB1239 fun a1240 h1240 => ?_; clear h632
     refine dk0 1 (v := v1) h1240 rfl rfl hB1239 fun a1241 h1241 => ?_; clear h1240
     refine dk0 2 (v := .int .i64 ((i : Nat) : Int)) h1241 rfl rfl hB1239 fun a1242 h1242 => ?_; clear h1241
     obtain ⟨y1243, hy1243⟩ : ∃ z, l1[i]? = some z := ⟨_, List.getElem?_eq_getElem (by first | omega | (simp; done) | (simp; omega))⟩
     have oky1243 := hok1 _ (List.mem_of_getElem? hy1243)
     have k1244 : -9223372036854775808 ≤ y1243.2.1 ∧ y1243.2.1 ≤ 9223372036854775807 := oky1243.1
     have k1245 : y1243.2.2.1.size ≤ 1048576 := oky1243.2.1
     refine dk 3 (v := pt (blkOf v1) (offOf v1 + i * 4)) h1242 rfl rfl hB1239 (fun x hx => (rn_index rfl rfl rfl Try.underlying22 Try.sizeOf29 (hs1.below hx) (by omega) (by first | omega | (simp; done) | (simp; omega)))) fun a1246 h1246 => ?_; clear h1242
     refine dk0 4 (v := pt (blkOf v1) (offOf v1 + i * 4 + 1)) h1246 rfl rfl hB1239 fun a1247 h1247 => ?_; clear h1246
     refine dk 5 (v := .int .i64 y1243.2.1) h1247 rfl rfl hB1239 (fun x hx => (rn_load1 rfl rfl Try.isAgg3 ((sl_at (hs1.below hx) hy1243) 1 _ rfl))) fun a1248 h1248 => ?_; clear h1247
     refine dk0 6 (v := v1) h1248 rfl rfl hB1239 fun a1249 h1249 => ?_; clear h1248
     refine dk0 7 (v := .int .i64 ((i : Nat) : Int)) h1249 rfl rfl hB1239 fun a1250 h1250 => ?_; clear h1249
     refine dk 8 (v := pt (blkOf v1) (offOf v1 + i * 4)) h1250 rfl rfl hB1239 (fun x hx => (rn_index rfl rfl rfl Try.underlying22 Try.sizeOf29 (hs1.below hx) (by omega) (by first | omega | (simp; done) | (simp; omega)))) fun a1251 h1251 => ?_; clear h1250
     refine dk0 9 (v := pt (blkOf v1) (offOf v1 + i * 4 + 2)) h1251 rfl rfl hB1239 fun a1252 h1252 => ?_; clear h1251
     refine dk 10 (v := .string y1243.2.2.1) h1252 rfl rfl hB1239 (fun x hx => (rn_load1 rfl rfl Try.isAgg9 ((sl_at (hs1.below hx) hy1243) 2 _ rfl))) fun a1253 h1253 => ?_; clear h1252
     have hd1258 := hf18.new hg1235
     refine d1 11 h1253 rfl rfl (op_call (args := #[pt N6 0, .int .i64 y1243.2.1, .string y1243.2.2.1]) (R := fun res xw => res = .int .i64 (wrE y1243.2.1) ∧ DObj w.heap.size xw N6 (0 + i + 1) (wrS (wrAll s0D (l1.take i)) y1243.2.1 y1243.2.2.1) ∧ ButD w.heap.size w1234 xw) rfl rfl rfl (by kernel_rfl) (by kernel_rfl) (Try.call21 _ _) (tWrite w1234 y1243.2.1 y1243.2.2.1 hd1258 ((wrAll_I s0_I hok1 i).hsz (by omega) y1243.2.1 oky1243.2.1) ((wrAll_I s0_I hok1 i).hpl (by omega))) (by rintro e x ⟨rfl, h1, h2⟩; exact ⟨_, rfl, rfl, h1, h2⟩)) ?_ ?_; clear h1253
     ·
      rintro _ w1255 ⟨rfl, hd1256, hx1257⟩
      have hz1260 := hx1257.size
      have hB1259 := (hbD hB1239 hx1257)
      have hz1261 := hB1259.size
      exact hB1259
     rintro _ w1255 a1254 ⟨rfl, hd1256, hx1257⟩ h1254
     have hz1260 := hx1257.size
     have hB1259 := (hbD hB1239 hx1257)
     have hz1261 := hB1259.size
     refine dr_done (by kernel_rfl) ?_
     refine co_blockN ?_
     refine co_then ?_
     refine co_reg ?_
     refine pk0 (v := .int .i64 ((i : Nat) : Int)) h1254 rfl fun a1262 h1262 => ?_; clear h1254
     refine pk (v := .int .i64 ((i + 1 : Nat) : Int)) h1262 rfl (rn_arith' rfl rfl rfl rfl rfl rfl (IntWalk.i64_in _ (by omega)) (by omega)) fun a1263 h1263 => ?_; clear h1262
     refine pk0 (v := .int .i64 ((i + 1 : Nat) : Int)) h1263 rfl fun a1264 h1264 => ?_; clear h1263
     refine pl_nil ?_
     refine co_then ?_
     refine ⟨(l1.length - (i + 1)), by omega, ?_⟩
     exact ⟨i + 1, h1264.sub ⟨rfl, rfl, rfl, rfl, rfl, trivial⟩, rfl, by omega, by omega, (dk_eq hd1256 (by first | rfl | exact (wrAll_at (by assumption)).symm) (by omega)), hB1259⟩
end Go.Proofs.Ytcnahhobppnbbaa
