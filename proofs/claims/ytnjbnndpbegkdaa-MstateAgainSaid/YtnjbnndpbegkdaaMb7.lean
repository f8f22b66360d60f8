/- Put together: MsaJMa. Conditions: as each says. -/
import Derived.Test.YtnjbnndpbegkdaaMb6
import Derived.Test.YtnjbnndpbegkdaaMb5
/- catenalaw28: MstateAgain. Conditions: none. -/
namespace Go.Proofs.Ytnjbnndpbegkdaa
open Go.RowKit Go.PlainAid
set_option linter.unusedVariables false
set_option linter.unusedSimpArgs false


theorem fm0 (L : List NoteD) (s : MsT) : foldM (L.take 0) s = s := by simp [foldM]
theorem kd_at {ks : List NoteX} {i : Nat} {y : NoteX} (h : ks[i]? = some y) : (ks.map (·.d))[i]? = some y.d := by rw [List.getElem?_map, h]; rfl
def kdM (ks : List NoteX) (i : Nat) : MsT := foldM ((ks.map (·.d)).take i) msZ
theorem kd_0 (ks : List NoteX) : kdM ks 0 = msZ := fm0 _ _
theorem kd_s {ks : List NoteX} {i : Nat} {y : NoteX} (h : ks[i]? = some y) : kdM ks (i + 1) = (apM y.d (kdM ks i)).2 := foldM_snoc (kd_at h)
theorem kd_r {ks : List NoteX} {i : Nat} {y : NoteX} {s : MsT} (hR : RunM (ks.map (·.d)) msZ s) (h : ks[i]? = some y) : (apM y.d (kdM ks i)).1 = 0 := hR.at (kd_at h)
theorem MsO.neD {w : World} {b d : Nat} {s t : MsT} (h : MsO w b s) (k : MdO w d t) : b ≠ d := by
  obtain ⟨_, _, _, h1, _⟩ := h
  obtain ⟨_, _, _, h2, _⟩ := k
  rintro rfl
  unfold Blk at h1 h2
  rw [h1] at h2; injection h2 with q; injection q with q1 q2
  exact absurd q2 (by decide)
theorem RunM.fin {ks : List NoteX} {i : Nat} {s : MsT} (h : RunM (ks.map (·.d)) msZ s) (hi : ks.length ≤ i) : kdM ks i = s := by
  unfold kdM; rw [List.take_of_length_le (by rw [List.length_map]; exact hi)]; exact h.fold
theorem NoteOk.below' {w x : World} {y : NoteX} (h : NoteOk w y) (hb : Below w.heap.size w x) : NoteOk x y := ⟨h.hm.below hb, h.hg.below hb, h.he.below hb, h.hR⟩
theorem nts_len (s : MsT) (h : s.pn.length ≤ 3) : (ntsM s).length ≤ 20 := by
  unfold ntsM cfM unM sdM
  simp only [List.length_append, List.length_map]
  split <;> split <;> split <;> split <;> split <;> simp <;> omega

set_option maxRecDepth 100000 in
set_option maxHeartbeats 6400000 in
theorem mstateAgain_l (v : Value) (l : List NoteX) (v2 : Value) (l2 : List NoteX) (w : World) (hs : SliceOf noteE 18 w v l) (hok : ∀ z ∈ l, NoteOk w z) (hs2 : SliceOf noteE 18 w v2 l2) (hok2 : ∀ z ∈ l2, NoteOk w z) :
    Calls Try.prog 3 #[v, v2] w fun e w' => e = .returned (.bool true) ∧ Below w.heap.size w w' := by
 have hB0 := Below.refl w.heap.size w
 have hl_hs := sl_len hs
 have hl_hs2 := sl_len hs2
 refine co_enter (n := 107) Try.func3 rfl rfl rfl [(0, v), (1, v2)] rfl (fun a h0 => ?_)
 refine co_seq ?_
 refine co_reg ?_
 refine pk0 (v := .bool false) h0 rfl fun a1 h1 => ?_; clear h0
 refine pl_nil ?_
 refine co_then ?_
 refine co_seq ?_
 refine co_seq ?_
 refine co_reg ?_
 refine pk0 (v := v) h1 rfl fun a2 h2 => ?_; clear h1
 refine pw h2 rfl (op_call (args := #[v]) (R := fun res xw => ∃ r : Int, res = .int .i64 r ∧ Below w.heap.size w xw) rfl rfl rfl (by kernel_rfl) (by kernel_rfl) (Try.call5 _ _) (partsL_any v l w (hs.below hB0) (fun z hz => NoteOk.below' (hok z hz) hB0)) (by rintro e x ⟨r, h0, h⟩; exact ⟨_, h0, r, rfl, h⟩)) ?_; clear h2
 rintro _ w4 a3 ⟨r5, rfl, hb6⟩ h3
 have hz7 := hb6.size
 refine pk0 (v := .bool (decide (r5 > 20))) h3 rfl fun a8 h8 => ?_; clear h3
 refine pk0 (v := .bool (decide (r5 > 20))) h8 rfl fun a9 h9 => ?_; clear h8
 have hB11 := hb_call hB0 hb6
 cases hc10 : (decide (r5 > 20))
 ·
  rw [hc10] at h9
  have hp12 : ¬ (r5 > 20) := of_decide_eq_false hc10
  clear hc10
  refine pk0 (v := v2) h9 rfl fun a13 h13 => ?_; clear h9
  refine pw h13 rfl (op_call (args := #[v2]) (R := fun res xw => ∃ r : Int, res = .int .i64 r ∧ Below w4.heap.size w4 xw) rfl rfl rfl (by kernel_rfl) (by kernel_rfl) (Try.call5 _ _) (partsL_any v2 l2 w4 (hs2.below hB11) (fun z hz => NoteOk.below' (hok2 z hz) hB11)) (by rintro e x ⟨r, h0, h⟩; exact ⟨_, h0, r, rfl, h⟩)) ?_; clear h13
  rintro _ w15 a14 ⟨r16, rfl, hb17⟩ h14
  have hz18 := hb17.size
  refine pk0 (v := .bool (decide (r16 > 20))) h14 rfl fun a19 h19 => ?_; clear h14
  refine pk0 (v := .bool (decide (r16 > 20))) h19 rfl fun a20 h20 => ?_; clear h19
  refine pl_nil ?_
  refine co_then ?_
  have hB22 := hb_call hB11 hb17
  cases hc21 : (decide (r16 > 20))
  ·
   rw [hc21] at h20
   have hp23 : ¬ (r16 > 20) := of_decide_eq_false hc21
   clear hc21
   refine co_false h20 rfl ?_
   refine wp_skip ?_
   refine co_then ?_
   refine co_seq ?_
   refine co_reg ?_
   refine pw h20 rfl (op_call (args := #[]) (R := fun res xw => ∃ N : Nat, res = pt N 0 ∧ MsO xw N msZ ∧ w15.heap.size ≤ N ∧ Below w15.heap.size w15 xw) rfl rfl rfl (by kernel_rfl) (by kernel_rfl) (Try.call7 _ _) (msNew w15) (by rintro e x ⟨N, rfl, h⟩; exact ⟨_, rfl, N, rfl, h⟩)) ?_; clear h20
   rintro _ w25 a24 ⟨N26, rfl, hO27, hlo28, hb29⟩ h24
   have hz30 := hb29.size
   have hl31 := hO27.lt
   refine pk0 (v := pt N26 0) h24 rfl fun a32 h32 => ?_; clear h24
   refine pl_nil ?_
   refine co_then ?_
   refine co_seq ?_
   refine co_seq ?_
   refine co_reg ?_
   refine pk0 (v := .int .i64 0) h32 rfl fun a33 h33 => ?_; clear h32
   refine pl_nil ?_
   refine co_then ?_
   refine wp_block ?_
   have hva9 := VaM.z
   have h34 : Slots 107 [(0, v), (1, v2), (5, pt N26 0), (6, .int .i64 0)] _ := h33.sub ⟨rfl, rfl, rfl, rfl, trivial⟩; clear h33
   refine co_loop (fun mm a x => ∃ (ia : Nat) (sA : MsT), Slots 107 [(0, v), (1, v2), (5, pt N26 0), (6, .int .i64 ((ia : Nat) : Int))] a ∧ mm = l.length - ia ∧ (ia ≤ l.length) ∧ (ia ≤ 40) ∧ (VaM sA) ∧ MsO x N26 sA ∧ Below w.heap.size w x) (l.length - 0) ?_ ?_
   have hB35 := hb_call hB22 hb29
   · exact ⟨0, msZ, h34.sub ⟨rfl, rfl, rfl, (slot_eq rfl (congrArg (Value.int .i64) (by first | rfl | omega))), trivial⟩, rfl, by omega, by omega, by exact hva9, hO27, hB35⟩
   · rintro k36 a37 w38 ⟨ia, sA, h37, rfl, hi39, hi40, hi41, hf42, hB43⟩
     have hz44 := hB43.size
     have hVA1 : VaM sA := by assumption
     have hlA := MsO.lt hf42
     refine co_seq ?_
     refine co_seq ?_
     refine co_reg ?_
     refine pk0 (v := .int .i64 ((ia : Nat) : Int)) h37 rfl fun a45 h45 => ?_; clear h37
     refine pk0 (v := v) h45 rfl fun a46 h46 => ?_; clear h45
     refine pk (v := .int .i64 ((l.length : Nat) : Int)) h46 rfl (rn_len rfl rfl Try.underlying22 (hs.below hB43)) fun a47 h47 => ?_; clear h46
     refine pk0 (v := .bool (decide (((ia : Nat) : Int) < ((l.length : Nat) : Int)))) h47 rfl fun a48 h48 => ?_; clear h47
     refine pk0 (v := .bool (decide (((ia : Nat) : Int) < ((l.length : Nat) : Int)))) h48 rfl fun a49 h49 => ?_; clear h48
     cases hc50 : (decide (((ia : Nat) : Int) < ((l.length : Nat) : Int)))
     ·
      rw [hc50] at h49
      have hp51 : ¬ (((ia : Nat) : Int) < ((l.length : Nat) : Int)) := of_decide_eq_false hc50
      clear hc50
      refine psk h49 rfl fun a52 h52 => ?_; clear h49
      refine psk h52 rfl fun a53 h53 => ?_; clear h52
      refine pk0 (v := .bool false) h53 rfl fun a54 h54 => ?_; clear h53
      refine pl_nil ?_
      refine co_then ?_
      refine co_false h54 rfl ?_
      refine wp_exit ?_
      refine co_thenX ?_
      refine co_thenX ?_
      refine co_blockX ?_
      refine co_then ?_
      refine co_seq ?_
      refine co_reg ?_
      refine pk0 (v := pt N26 0) h54 rfl fun a55 h55 => ?_; clear h54
      refine pw h55 rfl (op_call (args := #[pt N26 0]) (R := fun res xw => ∃ (u : Value) (ks : List NoteX), res = u ∧ ks.map (·.d) = ntsM sA ∧ NtM xw u ks ∧ Below w38.heap.size w38 xw) rfl rfl rfl (by kernel_rfl) (by kernel_rfl) (Try.call9 _ _) (moNotes hf42 hVA1) (by rintro e x ⟨u, ks, h0, h⟩; exact ⟨_, h0, u, ks, rfl, h⟩)) ?_; clear h55
      rintro u58 w57 a56 ⟨_, ks59, rfl, hk60, hN61, hb62⟩ h56
      have hz63 := hb62.size
      have hRun : RunM (ks59.map (·.d)) msZ sA := by rw [hk60]; exact replay hVA1
      have hkl : ks59.length ≤ 20 := by have := nts_len sA hVA1.pn3; rw [← hk60, List.length_map] at this; exact this
      refine pk0 (v := u58) h56 rfl fun a64 h64 => ?_; clear h56
      refine pl_nil ?_
      refine co_then ?_
      refine co_seq ?_
      refine co_reg ?_
      have hB67 := hb_call hB43 hb62
      have hX73 := MsO.below hf42 hb62
      have hlt72 := MsO.lt hX73
      refine pw h64 rfl (op_call (args := #[]) (R := fun res xw => ∃ N : Nat, res = pt N 0 ∧ MsO xw N msZ ∧ w57.heap.size ≤ N ∧ Below w57.heap.size w57 xw) rfl rfl rfl (by kernel_rfl) (by kernel_rfl) (Try.call7 _ _) (msNew w57) (by rintro e x ⟨N, rfl, h⟩; exact ⟨_, rfl, N, rfl, h⟩)) ?_; clear h64
      rintro _ w66 a65 ⟨N68, rfl, hO69, hlo70, hb71⟩ h65
      have hz74 := hb71.size
      have hl75 := hO69.lt
      refine pk0 (v := pt N68 0) h65 rfl fun a76 h76 => ?_; clear h65
      refine pl_nil ?_
      refine co_then ?_
      refine co_seq ?_
      refine co_reg ?_
      refine pk0 (v := .agg #[.int .i64 0, .slice none 0 0, .int .u64 0, .slice none 0 0, .int .u64 0, .slice none 0 0, .int .i64 0, .int .i64 0, .int .i64 0, .int .i64 0, .int .i64 0, .int .i64 0, .int .i64 0, .int .i64 0, .int .i64 0, .int .i64 0, .int .i64 0, .int .i64 0, .int .i64 0]) h76 rfl fun a77 h77 => ?_; clear h76
      refine pw h77 rfl (op_new (v := fun N => pt N 0) (T := 50) (cs := #[.int .i64 0, .slice none 0 0, .int .u64 0, .slice none 0 0, .int .u64 0, .slice none 0 0, .int .i64 0, .int .i64 0, .int .i64 0, .int .i64 0, .int .i64 0, .int .i64 0, .int .i64 0, .int .i64 0, .int .i64 0, .int .i64 0, .int .i64 0, .int .i64 0, .int .i64 0]) (by kernel_rfl) (by kernel_rfl) (by kernel_rfl)) ?_; clear h77
      rintro _ w79 a78 ⟨N80, rfl, hN83, hz84, hk82, hg81⟩ h78
      have hz85 := hg81.size
      try dsimp only at h78
      refine pk0 (v := pt N80 0) h78 rfl fun a86 h86 => ?_; clear h78
      refine pl_nil ?_
      refine co_then ?_
      refine co_seq ?_
      refine co_seq ?_
      refine co_reg ?_
      refine pk0 (v := .int .i64 0) h86 rfl fun a87 h87 => ?_; clear h86
      refine pl_nil ?_
      refine co_then ?_
      refine wp_block ?_
      have hD88 := mdMk hk82
      have hX89 := MsO.below hX73 hb71
      have hX90 := MsO.new hX89 hg81
      have hX91 := MsO.new hO69 hg81
      have hnd1 := MsO.neD hX90 hD88; have hnd2 := MsO.neD hX91 hD88
      have hva9 : VaM (kdM ks59 0) := by rw [kd_0]; exact VaM.z
      have h92 : Slots 107 [(0, v), (1, v2), (5, pt N26 0), (7, u58), (8, pt N68 0), (9, pt N80 0), (10, .int .i64 0)] _ := h87.sub ⟨rfl, rfl, rfl, rfl, rfl, rfl, rfl, trivial⟩; clear h87
      refine co_loop (fun mm a x => ∃ (i : Nat), Slots 107 [(0, v), (1, v2), (5, pt N26 0), (7, u58), (8, pt N68 0), (9, pt N80 0), (10, .int .i64 ((i : Nat) : Int))] a ∧ mm = ks59.length - i ∧ (i ≤ ks59.length) ∧ (VaM (kdM ks59 i)) ∧ MsO x N26 sA ∧ NtM x u58 ks59 ∧ MsO x N68 (kdM ks59 i) ∧ MdO x N80 (kdM ks59 i) ∧ Below w.heap.size w x) (ks59.length - 0) ?_ ?_
      have hX93 := NtM.below hN61 hb71
      have hX94 := NtM.new hX93 hg81
      have hB95 := hb_call hB67 hb71
      have hB96 := hb_new hB95 hg81
      · exact ⟨0, h92.sub ⟨rfl, rfl, rfl, rfl, rfl, rfl, (slot_eq rfl (congrArg (Value.int .i64) (by first | rfl | omega))), trivial⟩, rfl, by omega, by exact hva9, hX90, hX94, (by rw [kd_0]; exact hX91), (by rw [kd_0]; exact hD88), hB96⟩
      · rintro k97 a98 w99 ⟨i, h98, rfl, hi100, hi101, hf102, hf103, hf104, hf105, hB106⟩
        have hz107 := hB106.size
        have hVt2 : VaM (kdM ks59 i) := by assumption
        refine co_seq ?_
        refine co_seq ?_
        refine co_reg ?_
        refine pk0 (v := .int .i64 ((i : Nat) : Int)) h98 rfl fun a108 h108 => ?_; clear h98
        refine pk0 (v := u58) h108 rfl fun a109 h109 => ?_; clear h108
        refine pk (v := .int .i64 ((ks59.length : Nat) : Int)) h109 rfl (rn_len rfl rfl Try.underlying22 (NtM.sl hf103)) fun a110 h110 => ?_; clear h109
        refine pk0 (v := .bool (decide (((i : Nat) : Int) < ((ks59.length : Nat) : Int)))) h110 rfl fun a111 h111 => ?_; clear h110
        refine pl_nil ?_
        refine co_then ?_
        cases hc112 : (decide (((i : Nat) : Int) < ((ks59.length : Nat) : Int)))
        ·
         rw [hc112] at h111
         have hp113 : ¬ (((i : Nat) : Int) < ((ks59.length : Nat) : Int)) := of_decide_eq_false hc112
         clear hc112
         refine co_false h111 rfl ?_
         refine wp_exit ?_
         refine co_thenX ?_
         refine co_thenX ?_
         refine co_blockX ?_
         refine co_then ?_
         refine co_seq ?_
         refine co_seq ?_
         refine co_reg ?_
         refine pk0 (v := .int .i64 0) h111 rfl fun a114 h114 => ?_; clear h111
         refine pl_nil ?_
         refine co_then ?_
         refine wp_block ?_
         have hfin := RunM.fin hRun (i := i) (by omega)
         have hva9 := hVA1
         have h115 : Slots 107 [(1, v2), (5, pt N26 0), (8, pt N68 0), (9, pt N80 0), (11, .int .i64 0)] _ := h114.sub ⟨rfl, rfl, rfl, rfl, rfl, trivial⟩; clear h114
         refine co_loop (fun mm a x => ∃ (j : Nat) (sB : MsT), Slots 107 [(1, v2), (5, pt N26 0), (8, pt N68 0), (9, pt N80 0), (11, .int .i64 ((j : Nat) : Int))] a ∧ mm = l2.length - j ∧ (j ≤ l2.length) ∧ (j ≤ 20) ∧ (VaM sB) ∧ MsO x N26 sB ∧ MsO x N68 sB ∧ MdO x N80 sB ∧ Below w.heap.size w x) (l2.length - 0) ?_ ?_
         · exact ⟨0, sA, h115.sub ⟨rfl, rfl, rfl, rfl, (slot_eq rfl (congrArg (Value.int .i64) (by first | rfl | omega))), trivial⟩, rfl, by omega, by omega, by exact hva9, hf102, (by rw [← hfin]; exact hf104), (by rw [← hfin]; exact hf105), hB106⟩
         · rintro k116 a117 w118 ⟨j, sB, h117, rfl, hi119, hi120, hi121, hf122, hf123, hf124, hB125⟩
           have hz126 := hB125.size
           have hVA3 : VaM sB := by assumption
           refine co_seq ?_
           refine co_seq ?_
           refine co_reg ?_
           refine pk0 (v := .int .i64 ((j : Nat) : Int)) h117 rfl fun a127 h127 => ?_; clear h117
           refine pk0 (v := v2) h127 rfl fun a128 h128 => ?_; clear h127
           refine pk (v := .int .i64 ((l2.length : Nat) : Int)) h128 rfl (rn_len rfl rfl Try.underlying22 (hs2.below hB125)) fun a129 h129 => ?_; clear h128
           refine pk0 (v := .bool (decide (((j : Nat) : Int) < ((l2.length : Nat) : Int)))) h129 rfl fun a130 h130 => ?_; clear h129
           refine pk0 (v := .bool (decide (((j : Nat) : Int) < ((l2.length : Nat) : Int)))) h130 rfl fun a131 h131 => ?_; clear h130
           cases hc132 : (decide (((j : Nat) : Int) < ((l2.length : Nat) : Int)))
           ·
            rw [hc132] at h131
            have hp133 : ¬ (((j : Nat) : Int) < ((l2.length : Nat) : Int)) := of_decide_eq_false hc132
            clear hc132
            refine psk h131 rfl fun a134 h134 => ?_; clear h131
            refine psk h134 rfl fun a135 h135 => ?_; clear h134
            refine pk0 (v := .bool false) h135 rfl fun a136 h136 => ?_; clear h135
            refine pl_nil ?_
            refine co_then ?_
            refine co_false h136 rfl ?_
            refine wp_exit ?_
            refine co_thenX ?_
            refine co_thenX ?_
            refine co_blockX ?_
            refine co_then ?_
            refine co_seq ?_
            refine co_reg ?_
            refine pk0 (v := pt N26 0) h136 rfl fun a137 h137 => ?_; clear h136
            refine pk0 (v := pt N80 0) h137 rfl fun a138 h138 => ?_; clear h137
            refine pw h138 rfl (op_call (args := #[pt N26 0, pt N80 0]) (R := fun res xw => res = .int .i64 1 ∧ Below w118.heap.size w118 xw) rfl rfl rfl (by kernel_rfl) (by kernel_rfl) (Try.call11 _ _) (moSame hf122 hf124 hVA3) (by rintro e x ⟨rfl, h⟩; exact ⟨_, rfl, rfl, h⟩)) ?_; clear h138
            rintro _ w140 a139 ⟨rfl, hb141⟩ h139
            have hz142 := hb141.size
            refine pk0 (v := .bool ((1 : Int) != 0)) h139 rfl fun a143 h143 => ?_; clear h139
            refine pk0 (v := .bool ((1 : Int) != 0)) h143 rfl fun a144 h144 => ?_; clear h143
            have hc145 : ((1 : Int) != 0) = true := by first | (simp; done) | (simp; omega) | exact beq_false_of_ne (by omega) | exact beq_iff_eq.2 (by omega)
            rw [hc145] at h144; clear hc145
            refine pk0 (v := pt N68 0) h144 rfl fun a146 h146 => ?_; clear h144
            refine pk0 (v := pt N80 0) h146 rfl fun a147 h147 => ?_; clear h146
            have hB150 := hb_call hB125 hb141
            have hX151 := MsO.below hf123 hb141
            have hX152 := MdO.below hf124 hb141
            refine pw h147 rfl (op_call (args := #[pt N68 0, pt N80 0]) (R := fun res xw => res = .int .i64 1 ∧ Below w140.heap.size w140 xw) rfl rfl rfl (by kernel_rfl) (by kernel_rfl) (Try.call11 _ _) (moSame hX151 hX152 hVA3) (by rintro e x ⟨rfl, h⟩; exact ⟨_, rfl, rfl, h⟩)) ?_; clear h147
            rintro _ w149 a148 ⟨rfl, hb153⟩ h148
            have hz154 := hb153.size
            refine pk0 (v := .bool ((1 : Int) != 0)) h148 rfl fun a155 h155 => ?_; clear h148
            refine pk0 (v := .bool ((1 : Int) != 0)) h155 rfl fun a156 h156 => ?_; clear h155
            refine pk0 (v := .bool ((1 : Int) != 0)) h156 rfl fun a157 h157 => ?_; clear h156
            have hc158 : ((1 : Int) != 0) = true := by first | (simp; done) | (simp; omega) | exact beq_false_of_ne (by omega) | exact beq_iff_eq.2 (by omega)
            rw [hc158] at h157; clear hc158
            have hB161 := hb_call hB150 hb153
            have hX162 := MsO.below hf122 hb141
            have hX163 := MsO.below hX162 hb153
            refine pw h157 rfl (op_call (args := #[]) (R := fun res xw => res = .bool true ∧ Below w149.heap.size w149 xw) rfl rfl rfl (by kernel_rfl) (by kernel_rfl) (Try.call6 _ _) (awake28 w149) (by rintro e x ⟨rfl, h⟩; exact ⟨_, rfl, rfl, h⟩)) ?_; clear h157
            rintro _ w160 a159 ⟨rfl, hb164⟩ h159
            have hz165 := hb164.size
            refine pk0 (v := .bool true) h159 rfl fun a166 h166 => ?_; clear h159
            refine pk0 (v := .bool true) h166 rfl fun a167 h167 => ?_; clear h166
            refine pl_nil ?_
            refine co_then ?_
            refine wp_ret ?_
            refine co_ret1 h167 rfl rfl ?_
            have hB168 := hb_call hB161 hb164
            exact ⟨rfl, hB168⟩
           ·
            rw [hc132] at h131
            have hp169 : ((j : Nat) : Int) < ((l2.length : Nat) : Int) := of_decide_eq_true hc132
            clear hc132
            refine pk0 (v := .int .i64 ((j : Nat) : Int)) h131 rfl fun a170 h170 => ?_; clear h131
            refine pk0 (v := .bool (decide (((j : Nat) : Int) < 20))) h170 rfl fun a171 h171 => ?_; clear h170
            refine pk0 (v := .bool (decide (((j : Nat) : Int) < 20))) h171 rfl fun a172 h172 => ?_; clear h171
            refine pl_nil ?_
            refine co_then ?_
            cases hc173 : (decide (((j : Nat) : Int) < 20))
            ·
             rw [hc173] at h172
             have hp174 : ¬ (((j : Nat) : Int) < 20) := of_decide_eq_false hc173
             clear hc173
             refine co_false h172 rfl ?_
             refine wp_exit ?_
             refine co_thenX ?_
             refine co_thenX ?_
             refine co_blockX ?_
             refine co_then ?_
             refine co_seq ?_
             refine co_reg ?_
             refine pk0 (v := pt N26 0) h172 rfl fun a175 h175 => ?_; clear h172
             refine pk0 (v := pt N80 0) h175 rfl fun a176 h176 => ?_; clear h175
             refine pw h176 rfl (op_call (args := #[pt N26 0, pt N80 0]) (R := fun res xw => res = .int .i64 1 ∧ Below w118.heap.size w118 xw) rfl rfl rfl (by kernel_rfl) (by kernel_rfl) (Try.call11 _ _) (moSame hf122 hf124 hVA3) (by rintro e x ⟨rfl, h⟩; exact ⟨_, rfl, rfl, h⟩)) ?_; clear h176
             rintro _ w178 a177 ⟨rfl, hb179⟩ h177
             have hz180 := hb179.size
             refine pk0 (v := .bool ((1 : Int) != 0)) h177 rfl fun a181 h181 => ?_; clear h177
             refine pk0 (v := .bool ((1 : Int) != 0)) h181 rfl fun a182 h182 => ?_; clear h181
             have hc183 : ((1 : Int) != 0) = true := by first | (simp; done) | (simp; omega) | exact beq_false_of_ne (by omega) | exact beq_iff_eq.2 (by omega)
             rw [hc183] at h182; clear hc183
             refine pk0 (v := pt N68 0) h182 rfl fun a184 h184 => ?_; clear h182
             refine pk0 (v := pt N80 0) h184 rfl fun a185 h185 => ?_; clear h184
             have hB188 := hb_call hB125 hb179
             have hX189 := MsO.below hf123 hb179
             have hX190 := MdO.below hf124 hb179
             refine pw h185 rfl (op_call (args := #[pt N68 0, pt N80 0]) (R := fun res xw => res = .int .i64 1 ∧ Below w178.heap.size w178 xw) rfl rfl rfl (by kernel_rfl) (by kernel_rfl) (Try.call11 _ _) (moSame hX189 hX190 hVA3) (by rintro e x ⟨rfl, h⟩; exact ⟨_, rfl, rfl, h⟩)) ?_; clear h185
             rintro _ w187 a186 ⟨rfl, hb191⟩ h186
             have hz192 := hb191.size
             refine pk0 (v := .bool ((1 : Int) != 0)) h186 rfl fun a193 h193 => ?_; clear h186
             refine pk0 (v := .bool ((1 : Int) != 0)) h193 rfl fun a194 h194 => ?_; clear h193
             refine pk0 (v := .bool ((1 : Int) != 0)) h194 rfl fun a195 h195 => ?_; clear h194
             have hc196 : ((1 : Int) != 0) = true := by first | (simp; done) | (simp; omega) | exact beq_false_of_ne (by omega) | exact beq_iff_eq.2 (by omega)
             rw [hc196] at h195; clear hc196
             have hB199 := hb_call hB188 hb191
             have hX200 := MsO.below hf122 hb179
             have hX201 := MsO.below hX200 hb191
             refine pw h195 rfl (op_call (args := #[]) (R := fun res xw => res = .bool true ∧ Below w187.heap.size w187 xw) rfl rfl rfl (by kernel_rfl) (by kernel_rfl) (Try.call6 _ _) (awake28 w187) (by rintro e x ⟨rfl, h⟩; exact ⟨_, rfl, rfl, h⟩)) ?_; clear h195
             rintro _ w198 a197 ⟨rfl, hb202⟩ h197
             have hz203 := hb202.size
             refine pk0 (v := .bool true) h197 rfl fun a204 h204 => ?_; clear h197
             refine pk0 (v := .bool true) h204 rfl fun a205 h205 => ?_; clear h204
             refine pl_nil ?_
             refine co_then ?_
             refine wp_ret ?_
             refine co_ret1 h205 rfl rfl ?_
             have hB206 := hb_call hB199 hb202
             exact ⟨rfl, hB206⟩
            ·
             rw [hc173] at h172
             have hp207 : ((j : Nat) : Int) < 20 := of_decide_eq_true hc173
             clear hc173
             refine co_true h172 rfl ?_
             refine wp_skip ?_
             refine co_then ?_
             refine co_seq ?_
             refine wp_block ?_
             refine co_seq ?_
             refine co_seq ?_
             refine dr_gen (fun x => Below w.heap.size w x) (by kernel_rfl) (fun w208 hg209 => ?_) (fun w208 hg209 => ?_)
             ·
              have hz210 := hg209.size
              have hB211 := hb_new hB125 hg209
              exact hB211
             have hz212 := hg209.size
             have hB213 := hb_new hB125 hg209
             refine dk0 0 (v := pt N26 0) h172 rfl rfl hB213 fun a214 h214 => ?_; clear h172
             refine dk0 1 (v := v2) h214 rfl rfl hB213 fun a215 h215 => ?_; clear h214
             refine dk0 2 (v := .int .i64 ((j : Nat) : Int)) h215 rfl rfl hB213 fun a216 h216 => ?_; clear h215
             obtain ⟨y217, hy217⟩ : ∃ z, l2[j]? = some z := ⟨_, List.getElem?_eq_getElem (by first | omega | (simp; done) | (simp; omega))⟩
             have oky217 := hok2 _ (List.mem_of_getElem? hy217)
             refine dk 3 (v := pt (blkOf v2) (offOf v2 + j * 18)) h216 rfl rfl hB213 (fun x hx => (rn_index rfl rfl rfl Try.underlying22 Try.sizeOf44 (hs2.below hx) (by omega) (by first | omega | (simp; done) | (simp; omega)))) fun a218 h218 => ?_; clear h216
             refine dk 4 (v := .agg #[.int .i64 y217.d.k, .int .i64 y217.d.n, .int .u64 y217.d.t, .int .i64 y217.d.ep, y217.mv, .int .u64 y217.d.fl, y217.lv, .int .i64 y217.d.ec, .int .i64 y217.d.er, y217.ev, .int .u64 y217.d.ets, .int .i64 y217.d.pid, .int .u64 y217.d.pat, .int .i64 y217.d.plf, .int .i64 y217.d.sc, .int .i64 y217.d.sr, .int .i64 y217.d.se, .int .i64 y217.d.sp]) h218 rfl rfl hB213 (fun x hx => (rn_loadN rfl rfl Try.underlying44 rfl (by kernel_rfl) (sl_at (hs2.below hx) hy217))) fun a219 h219 => ?_; clear h218
             refine dk0 6 (v := pt N68 0) h219 rfl rfl hB213 fun a220 h220 => ?_; clear h219
             refine dk0 7 (v := v2) h220 rfl rfl hB213 fun a221 h221 => ?_; clear h220
             refine dk0 8 (v := .int .i64 ((j : Nat) : Int)) h221 rfl rfl hB213 fun a222 h222 => ?_; clear h221
             refine dk 9 (v := pt (blkOf v2) (offOf v2 + j * 18)) h222 rfl rfl hB213 (fun x hx => (rn_index rfl rfl rfl Try.underlying22 Try.sizeOf44 (hs2.below hx) (by omega) (by first | omega | (simp; done) | (simp; omega)))) fun a223 h223 => ?_; clear h222
             refine dk 10 (v := .agg #[.int .i64 y217.d.k, .int .i64 y217.d.n, .int .u64 y217.d.t, .int .i64 y217.d.ep, y217.mv, .int .u64 y217.d.fl, y217.lv, .int .i64 y217.d.ec, .int .i64 y217.d.er, y217.ev, .int .u64 y217.d.ets, .int .i64 y217.d.pid, .int .u64 y217.d.pat, .int .i64 y217.d.plf, .int .i64 y217.d.sc, .int .i64 y217.d.sr, .int .i64 y217.d.se, .int .i64 y217.d.sp]) h223 rfl rfl hB213 (fun x hx => (rn_loadN rfl rfl Try.underlying44 rfl (by kernel_rfl) (sl_at (hs2.below hx) hy217))) fun a224 h224 => ?_; clear h223
             have hX230 := MsO.new hf122 hg209
             have ho227 := MsO.off hX230
             refine d1 5 h224 rfl rfl (op_call (args := #[pt N26 0, .agg #[.int .i64 y217.d.k, .int .i64 y217.d.n, .int .u64 y217.d.t, .int .i64 y217.d.ep, y217.mv, .int .u64 y217.d.fl, y217.lv, .int .i64 y217.d.ec, .int .i64 y217.d.er, y217.ev, .int .u64 y217.d.ets, .int .i64 y217.d.pid, .int .u64 y217.d.pat, .int .i64 y217.d.plf, .int .i64 y217.d.sc, .int .i64 y217.d.sr, .int .i64 y217.d.se, .int .i64 y217.d.sp]]) (R := fun res xw => res = .int .i64 (apM y217.d sB).1 ∧ MsO xw N26 (apM y217.d sB).2 ∧ But (fun q => q = N26) w208 xw) rfl rfl rfl (by kernel_rfl) (by kernel_rfl) (Try.call8 _ _) (msApply w208 y217.mv y217.lv y217.ev hX230 (by have := hVA3.lg4; omega) (oky217.hm.below hB213) (oky217.hg.below hB213) (oky217.he.below hB213) oky217.hR (sl_offM oky217.hm (memE_ne _) (by omega)) (sl_offM oky217.hg (intE_ne _) (by omega)) (sl_offM oky217.he (fun _ _ e => by cases e) (by omega))) (by rintro e x ⟨rfl, h⟩; exact ⟨_, rfl, rfl, h⟩)) ?_ ?_; clear h224
             ·
              rintro _ w226 ⟨rfl, hO228, hb229⟩
              have hz231 := hb229.size
              have hB232 := hb_foot hB213 hb229 (fun i hlt hS => by (try simp at hS); first | omega | (simp; omega) | simp_all)
              exact hB232
             rintro _ w226 a225 ⟨rfl, hO228, hb229⟩ h225
             have hz231 := hb229.size
             have hB232 := hb_foot hB213 hb229 (fun i hlt hS => by (try simp at hS); first | omega | (simp; omega) | simp_all)
             have hX235 := MsO.new hf123 hg209
             have hX236 := MsO.foot hX235 ho227 (by omega) hb229
             have hX237 := MdO.new hf124 hg209
             have hX238 := MdO.foot hX237 ho227 (by omega) hb229
             have ho239 := MsO.off hX236
             refine d1 11 h225 rfl rfl (op_call (args := #[pt N68 0, .agg #[.int .i64 y217.d.k, .int .i64 y217.d.n, .int .u64 y217.d.t, .int .i64 y217.d.ep, y217.mv, .int .u64 y217.d.fl, y217.lv, .int .i64 y217.d.ec, .int .i64 y217.d.er, y217.ev, .int .u64 y217.d.ets, .int .i64 y217.d.pid, .int .u64 y217.d.pat, .int .i64 y217.d.plf, .int .i64 y217.d.sc, .int .i64 y217.d.sr, .int .i64 y217.d.se, .int .i64 y217.d.sp]]) (R := fun res xw => res = .int .i64 (apM y217.d sB).1 ∧ MsO xw N68 (apM y217.d sB).2 ∧ But (fun q => q = N68) w226 xw) rfl rfl rfl (by kernel_rfl) (by kernel_rfl) (Try.call8 _ _) (msApply w226 y217.mv y217.lv y217.ev hX236 (by have := hVA3.lg4; omega) (oky217.hm.below hB232) (oky217.hg.below hB232) (oky217.he.below hB232) oky217.hR (sl_offM oky217.hm (memE_ne _) (by omega)) (sl_offM oky217.hg (intE_ne _) (by omega)) (sl_offM oky217.he (fun _ _ e => by cases e) (by omega))) (by rintro e x ⟨rfl, h⟩; exact ⟨_, rfl, rfl, h⟩)) ?_ ?_; clear h225
             ·
              rintro _ w234 ⟨rfl, hO240, hb241⟩
              have hz242 := hb241.size
              have hB243 := hb_foot hB232 hb241 (fun i hlt hS => by (try simp at hS); first | omega | (simp; omega) | simp_all)
              exact hB243
             rintro _ w234 a233 ⟨rfl, hO240, hb241⟩ h233
             have hz242 := hb241.size
             have hB243 := hb_foot hB232 hb241 (fun i hlt hS => by (try simp at hS); first | omega | (simp; omega) | simp_all)
             refine dk0 12 (v := .bool ((apM y217.d sB).1 != (apM y217.d sB).1)) h233 rfl rfl hB243 fun a244 h244 => ?_; clear h233
             refine dr_done (by kernel_rfl) ?_
             refine co_then ?_
             have hc245 : ((apM y217.d sB).1 != (apM y217.d sB).1) = false := by first | (simp; done) | (simp; omega) | exact beq_false_of_ne (by omega) | exact beq_iff_eq.2 (by omega)
             rw [hc245] at h244; clear hc245
             refine co_false h244 rfl ?_
             refine wp_skip ?_
             refine co_then ?_
             refine co_reg ?_
             refine pk0 (v := pt N80 0) h244 rfl fun a246 h246 => ?_; clear h244
             refine pk0 (v := v2) h246 rfl fun a247 h247 => ?_; clear h246
             refine pk0 (v := .int .i64 ((j : Nat) : Int)) h247 rfl fun a248 h248 => ?_; clear h247
             refine pk (v := pt (blkOf v2) (offOf v2 + j * 18)) h248 rfl (rn_index rfl rfl rfl Try.underlying22 Try.sizeOf44 (hs2.below hB243) (by omega) (by first | omega | (simp; done) | (simp; omega))) fun a249 h249 => ?_; clear h248
             refine pk (v := .agg #[.int .i64 y217.d.k, .int .i64 y217.d.n, .int .u64 y217.d.t, .int .i64 y217.d.ep, y217.mv, .int .u64 y217.d.fl, y217.lv, .int .i64 y217.d.ec, .int .i64 y217.d.er, y217.ev, .int .u64 y217.d.ets, .int .i64 y217.d.pid, .int .u64 y217.d.pat, .int .i64 y217.d.plf, .int .i64 y217.d.sc, .int .i64 y217.d.sr, .int .i64 y217.d.se, .int .i64 y217.d.sp]) h249 rfl (rn_loadN rfl rfl Try.underlying44 rfl (by kernel_rfl) (sl_at (hs2.below hB243) hy217)) fun a250 h250 => ?_; clear h249
             have hX256 := MdO.foot hX238 ho239 (by omega) hb241
             have ho253 := MdO.off hX256
             refine pw h250 rfl (op_call (args := #[pt N80 0, .agg #[.int .i64 y217.d.k, .int .i64 y217.d.n, .int .u64 y217.d.t, .int .i64 y217.d.ep, y217.mv, .int .u64 y217.d.fl, y217.lv, .int .i64 y217.d.ec, .int .i64 y217.d.er, y217.ev, .int .u64 y217.d.ets, .int .i64 y217.d.pid, .int .u64 y217.d.pat, .int .i64 y217.d.plf, .int .i64 y217.d.sc, .int .i64 y217.d.sr, .int .i64 y217.d.se, .int .i64 y217.d.sp]]) (R := fun res xw => res = .int .i64 (apM y217.d sB).1 ∧ MdO xw N80 (apM y217.d sB).2 ∧ But (fun q => q = N80) w234 xw) rfl rfl rfl (by kernel_rfl) (by kernel_rfl) (Try.call10 _ _) (mdApply w234 y217.mv y217.lv y217.ev hX256 hVA3 (oky217.hm.below hB243) (oky217.hg.below hB243) (oky217.he.below hB243) oky217.hR (sl_offM oky217.hm (memE_ne _) (by omega)) (sl_offM oky217.hg (intE_ne _) (by omega)) (sl_offM oky217.he (fun _ _ e => by cases e) (by omega))) (by rintro e x ⟨rfl, h⟩; exact ⟨_, rfl, rfl, h⟩)) ?_; clear h250
             rintro _ w252 a251 ⟨rfl, hO254, hb255⟩ h251
             have hz257 := hb255.size
             refine pl_nil ?_
             refine co_blockN ?_
             refine co_then ?_
             refine co_reg ?_
             refine pk0 (v := .int .i64 ((j : Nat) : Int)) h251 rfl fun a258 h258 => ?_; clear h251
             refine pk (v := .int .i64 ((j + 1 : Nat) : Int)) h258 rfl (rn_arith' rfl rfl rfl rfl rfl rfl (IntWalk.i64_in _ (by omega)) (by omega)) fun a259 h259 => ?_; clear h258
             refine pk0 (v := .int .i64 ((j + 1 : Nat) : Int)) h259 rfl fun a260 h260 => ?_; clear h259
             refine pl_nil ?_
             refine co_then ?_
             refine ⟨(l2.length - (j + 1)), by omega, ?_⟩
             have hva9 := hVA3.ap oky217.hR
             have hX261 := MsO.foot hO228 ho239 (by omega) hb241
             have hX262 := MsO.foot hX261 ho253 (by omega) hb255
             have hX263 := MsO.foot hO240 ho253 (by omega) hb255
             have hB264 := hb_foot hB243 hb255 (fun i hlt hS => by (try simp at hS); first | omega | (simp; omega) | simp_all)
             exact ⟨j + 1, (apM y217.d sB).2, h260.sub ⟨rfl, rfl, rfl, rfl, rfl, trivial⟩, rfl, by omega, by omega, by exact hva9, hX262, hX263, hO254, hB264⟩
        ·
         rw [hc112] at h111
         have hp265 : ((i : Nat) : Int) < ((ks59.length : Nat) : Int) := of_decide_eq_true hc112
         clear hc112
         refine co_true h111 rfl ?_
         refine wp_skip ?_
         refine co_then ?_
         refine co_seq ?_
         refine wp_block ?_
         refine co_seq ?_
         refine co_reg ?_
         refine pk0 (v := pt N68 0) h111 rfl fun a266 h266 => ?_; clear h111
         refine pk0 (v := u58) h266 rfl fun a267 h267 => ?_; clear h266
         refine pk0 (v := .int .i64 ((i : Nat) : Int)) h267 rfl fun a268 h268 => ?_; clear h267
         obtain ⟨y269, hy269⟩ : ∃ z, ks59[i]? = some z := ⟨_, List.getElem?_eq_getElem (by first | omega | (simp; done) | (simp; omega))⟩
         refine pk (v := pt (blkOf u58) (offOf u58 + i * 18)) h268 rfl (rn_index rfl rfl rfl Try.underlying22 Try.sizeOf44 (NtM.sl hf103) (by omega) (by first | omega | (simp; done) | (simp; omega))) fun a270 h270 => ?_; clear h268
         refine pk (v := .agg #[.int .i64 y269.d.k, .int .i64 y269.d.n, .int .u64 y269.d.t, .int .i64 y269.d.ep, y269.mv, .int .u64 y269.d.fl, y269.lv, .int .i64 y269.d.ec, .int .i64 y269.d.er, y269.ev, .int .u64 y269.d.ets, .int .i64 y269.d.pid, .int .u64 y269.d.pat, .int .i64 y269.d.plf, .int .i64 y269.d.sc, .int .i64 y269.d.sr, .int .i64 y269.d.se, .int .i64 y269.d.sp]) h270 rfl (rn_loadN rfl rfl Try.underlying44 rfl (by kernel_rfl) (sl_at (NtM.sl hf103) hy269)) fun a271 h271 => ?_; clear h270
         have ho274 := MsO.off hf104
         have hn1277 := NtM.one hf103 hy269
         have hr0278 := kd_r hRun hy269
         refine pw h271 rfl (op_call (args := #[pt N68 0, .agg #[.int .i64 y269.d.k, .int .i64 y269.d.n, .int .u64 y269.d.t, .int .i64 y269.d.ep, y269.mv, .int .u64 y269.d.fl, y269.lv, .int .i64 y269.d.ec, .int .i64 y269.d.er, y269.ev, .int .u64 y269.d.ets, .int .i64 y269.d.pid, .int .u64 y269.d.pat, .int .i64 y269.d.plf, .int .i64 y269.d.sc, .int .i64 y269.d.sr, .int .i64 y269.d.se, .int .i64 y269.d.sp]]) (R := fun res xw => res = .int .i64 (apM y269.d (kdM ks59 i)).1 ∧ MsO xw N68 (apM y269.d (kdM ks59 i)).2 ∧ But (fun q => q = N68) w99 xw) rfl rfl rfl (by kernel_rfl) (by kernel_rfl) (Try.call8 _ _) (msApply w99 y269.mv y269.lv y269.ev hf104 (by have := hVt2.lg4; omega) hn1277.ok.hm hn1277.ok.hg hn1277.ok.he hn1277.hR (NtR.offM hn1277 ho274) (NtR.offG hn1277 ho274) (NtR.offE hn1277)) (by rintro e x ⟨rfl, h⟩; exact ⟨_, rfl, rfl, h⟩)) ?_; clear h271
         rintro _ w273 a272 ⟨rfl, hO275, hb276⟩ h272
         have hz279 := hb276.size
         refine pk0 (v := .bool ((apM y269.d (kdM ks59 i)).1 != 0)) h272 rfl fun a280 h280 => ?_; clear h272
         refine pk0 (v := .bool ((apM y269.d (kdM ks59 i)).1 != 0)) h280 rfl fun a281 h281 => ?_; clear h280
         have hc282 : ((apM y269.d (kdM ks59 i)).1 != 0) = false := by first | (simp; done) | (simp; omega) | exact beq_false_of_ne (by omega) | exact beq_iff_eq.2 (by omega)
         rw [hc282] at h281; clear hc282
         refine pk0 (v := pt N80 0) h281 rfl fun a283 h283 => ?_; clear h281
         refine pk0 (v := u58) h283 rfl fun a284 h284 => ?_; clear h283
         refine pk0 (v := .int .i64 ((i : Nat) : Int)) h284 rfl fun a285 h285 => ?_; clear h284
         have hX286 := NtM.foot hf103 ho274 hb276
         refine pk (v := pt (blkOf u58) (offOf u58 + i * 18)) h285 rfl (rn_index rfl rfl rfl Try.underlying22 Try.sizeOf44 (NtM.sl hX286) (by omega) (by first | omega | (simp; done) | (simp; omega))) fun a287 h287 => ?_; clear h285
         refine pk (v := .agg #[.int .i64 y269.d.k, .int .i64 y269.d.n, .int .u64 y269.d.t, .int .i64 y269.d.ep, y269.mv, .int .u64 y269.d.fl, y269.lv, .int .i64 y269.d.ec, .int .i64 y269.d.er, y269.ev, .int .u64 y269.d.ets, .int .i64 y269.d.pid, .int .u64 y269.d.pat, .int .i64 y269.d.plf, .int .i64 y269.d.sc, .int .i64 y269.d.sr, .int .i64 y269.d.se, .int .i64 y269.d.sp]) h287 rfl (rn_loadN rfl rfl Try.underlying44 rfl (by kernel_rfl) (sl_at (NtM.sl hX286) hy269)) fun a288 h288 => ?_; clear h287
         have hB291 := hb_foot hB106 hb276 (fun i hlt hS => by (try simp at hS); first | omega | (simp; omega) | simp_all)
         have hX295 := MdO.foot hf105 ho274 (by omega) hb276
         have ho292 := MdO.off hX295
         have hn1296 := NtM.one hX286 hy269
         have hr0297 := kd_r hRun hy269
         refine pw h288 rfl (op_call (args := #[pt N80 0, .agg #[.int .i64 y269.d.k, .int .i64 y269.d.n, .int .u64 y269.d.t, .int .i64 y269.d.ep, y269.mv, .int .u64 y269.d.fl, y269.lv, .int .i64 y269.d.ec, .int .i64 y269.d.er, y269.ev, .int .u64 y269.d.ets, .int .i64 y269.d.pid, .int .u64 y269.d.pat, .int .i64 y269.d.plf, .int .i64 y269.d.sc, .int .i64 y269.d.sr, .int .i64 y269.d.se, .int .i64 y269.d.sp]]) (R := fun res xw => res = .int .i64 (apM y269.d (kdM ks59 i)).1 ∧ MdO xw N80 (apM y269.d (kdM ks59 i)).2 ∧ But (fun q => q = N80) w273 xw) rfl rfl rfl (by kernel_rfl) (by kernel_rfl) (Try.call10 _ _) (mdApply w273 y269.mv y269.lv y269.ev hX295 hVt2 hn1296.ok.hm hn1296.ok.hg hn1296.ok.he hn1296.hR (NtR.offM hn1296 ho292) (NtR.offG hn1296 ho292) (NtR.offE hn1296)) (by rintro e x ⟨rfl, h⟩; exact ⟨_, rfl, rfl, h⟩)) ?_; clear h288
         rintro _ w290 a289 ⟨rfl, hO293, hb294⟩ h289
         have hz298 := hb294.size
         refine pk0 (v := .bool ((apM y269.d (kdM ks59 i)).1 != 0)) h289 rfl fun a299 h299 => ?_; clear h289
         refine pk0 (v := .bool ((apM y269.d (kdM ks59 i)).1 != 0)) h299 rfl fun a300 h300 => ?_; clear h299
         refine pl_nil ?_
         refine co_then ?_
         have hc301 : ((apM y269.d (kdM ks59 i)).1 != 0) = false := by first | (simp; done) | (simp; omega) | exact beq_false_of_ne (by omega) | exact beq_iff_eq.2 (by omega)
         rw [hc301] at h300; clear hc301
         refine co_false h300 rfl ?_
         refine wp_skip ?_
         refine co_blockN ?_
         refine co_then ?_
         refine co_reg ?_
         refine pk0 (v := .int .i64 ((i : Nat) : Int)) h300 rfl fun a302 h302 => ?_; clear h300
         refine pk (v := .int .i64 ((i + 1 : Nat) : Int)) h302 rfl (rn_arith' rfl rfl rfl rfl rfl rfl (IntWalk.i64_in _ (by omega)) (by omega)) fun a303 h303 => ?_; clear h302
         refine pk0 (v := .int .i64 ((i + 1 : Nat) : Int)) h303 rfl fun a304 h304 => ?_; clear h303
         refine pl_nil ?_
         refine co_then ?_
         refine ⟨(ks59.length - (i + 1)), by omega, ?_⟩
         have hva9 : VaM (kdM ks59 (i + 1)) := by rw [kd_s hy269]; exact hVt2.ap hn1296.hR
         have hX305 := MsO.foot hf102 ho274 (by omega) hb276
         have hX306 := MsO.foot hX305 ho292 (by omega) hb294
         have hX307 := NtM.foot hX286 ho292 hb294
         have hX308 := MsO.foot hO275 ho292 (by omega) hb294
         have hB309 := hb_foot hB291 hb294 (fun i hlt hS => by (try simp at hS); first | omega | (simp; omega) | simp_all)
         exact ⟨i + 1, h304.sub ⟨rfl, rfl, rfl, rfl, rfl, rfl, rfl, trivial⟩, rfl, by omega, by exact hva9, hX306, hX307, (by rw [kd_s hy269]; exact hX308), (by rw [kd_s hy269]; exact hO293), hB309⟩
     ·
      rw [hc50] at h49
      have hp310 : ((ia : Nat) : Int) < ((l.length : Nat) : Int) := of_decide_eq_true hc50
      clear hc50
      refine pk0 (v := .int .i64 ((ia : Nat) : Int)) h49 rfl fun a311 h311 => ?_; clear h49
      refine pk0 (v := .bool (decide (((ia : Nat) : Int) < 40))) h311 rfl fun a312 h312 => ?_; clear h311
      refine pk0 (v := .bool (decide (((ia : Nat) : Int) < 40))) h312 rfl fun a313 h313 => ?_; clear h312
      refine pl_nil ?_
      refine co_then ?_
      cases hc314 : (decide (((ia : Nat) : Int) < 40))
      ·
       rw [hc314] at h313
       have hp315 : ¬ (((ia : Nat) : Int) < 40) := of_decide_eq_false hc314
       clear hc314
       refine co_false h313 rfl ?_
       refine wp_exit ?_
       refine co_thenX ?_
       refine co_thenX ?_
       refine co_blockX ?_
       refine co_then ?_
       refine co_seq ?_
       refine co_reg ?_
       refine pk0 (v := pt N26 0) h313 rfl fun a316 h316 => ?_; clear h313
       refine pw h316 rfl (op_call (args := #[pt N26 0]) (R := fun res xw => ∃ (u : Value) (ks : List NoteX), res = u ∧ ks.map (·.d) = ntsM sA ∧ NtM xw u ks ∧ Below w38.heap.size w38 xw) rfl rfl rfl (by kernel_rfl) (by kernel_rfl) (Try.call9 _ _) (moNotes hf42 hVA1) (by rintro e x ⟨u, ks, h0, h⟩; exact ⟨_, h0, u, ks, rfl, h⟩)) ?_; clear h316
       rintro u319 w318 a317 ⟨_, ks320, rfl, hk321, hN322, hb323⟩ h317
       have hz324 := hb323.size
       have hRun : RunM (ks320.map (·.d)) msZ sA := by rw [hk321]; exact replay hVA1
       have hkl : ks320.length ≤ 20 := by have := nts_len sA hVA1.pn3; rw [← hk321, List.length_map] at this; exact this
       refine pk0 (v := u319) h317 rfl fun a325 h325 => ?_; clear h317
       refine pl_nil ?_
       refine co_then ?_
       refine co_seq ?_
       refine co_reg ?_
       have hB328 := hb_call hB43 hb323
       have hX334 := MsO.below hf42 hb323
       have hlt333 := MsO.lt hX334
       refine pw h325 rfl (op_call (args := #[]) (R := fun res xw => ∃ N : Nat, res = pt N 0 ∧ MsO xw N msZ ∧ w318.heap.size ≤ N ∧ Below w318.heap.size w318 xw) rfl rfl rfl (by kernel_rfl) (by kernel_rfl) (Try.call7 _ _) (msNew w318) (by rintro e x ⟨N, rfl, h⟩; exact ⟨_, rfl, N, rfl, h⟩)) ?_; clear h325
       rintro _ w327 a326 ⟨N329, rfl, hO330, hlo331, hb332⟩ h326
       have hz335 := hb332.size
       have hl336 := hO330.lt
       refine pk0 (v := pt N329 0) h326 rfl fun a337 h337 => ?_; clear h326
       refine pl_nil ?_
       refine co_then ?_
       refine co_seq ?_
       refine co_reg ?_
       refine pk0 (v := .agg #[.int .i64 0, .slice none 0 0, .int .u64 0, .slice none 0 0, .int .u64 0, .slice none 0 0, .int .i64 0, .int .i64 0, .int .i64 0, .int .i64 0, .int .i64 0, .int .i64 0, .int .i64 0, .int .i64 0, .int .i64 0, .int .i64 0, .int .i64 0, .int .i64 0, .int .i64 0]) h337 rfl fun a338 h338 => ?_; clear h337
       refine pw h338 rfl (op_new (v := fun N => pt N 0) (T := 50) (cs := #[.int .i64 0, .slice none 0 0, .int .u64 0, .slice none 0 0, .int .u64 0, .slice none 0 0, .int .i64 0, .int .i64 0, .int .i64 0, .int .i64 0, .int .i64 0, .int .i64 0, .int .i64 0, .int .i64 0, .int .i64 0, .int .i64 0, .int .i64 0, .int .i64 0, .int .i64 0]) (by kernel_rfl) (by kernel_rfl) (by kernel_rfl)) ?_; clear h338
       rintro _ w340 a339 ⟨N341, rfl, hN344, hz345, hk343, hg342⟩ h339
       have hz346 := hg342.size
       try dsimp only at h339
       refine pk0 (v := pt N341 0) h339 rfl fun a347 h347 => ?_; clear h339
       refine pl_nil ?_
       refine co_then ?_
       refine co_seq ?_
       refine co_seq ?_
       refine co_reg ?_
       refine pk0 (v := .int .i64 0) h347 rfl fun a348 h348 => ?_; clear h347
       refine pl_nil ?_
       refine co_then ?_
       refine wp_block ?_
       have hD349 := mdMk hk343
       have hX350 := MsO.below hX334 hb332
       have hX351 := MsO.new hX350 hg342
       have hX352 := MsO.new hO330 hg342
       have hnd1 := MsO.neD hX351 hD349; have hnd2 := MsO.neD hX352 hD349
       have hva9 : VaM (kdM ks320 0) := by rw [kd_0]; exact VaM.z
       have h353 : Slots 107 [(0, v), (1, v2), (5, pt N26 0), (7, u319), (8, pt N329 0), (9, pt N341 0), (10, .int .i64 0)] _ := h348.sub ⟨rfl, rfl, rfl, rfl, rfl, rfl, rfl, trivial⟩; clear h348
       refine co_loop (fun mm a x => ∃ (i : Nat), Slots 107 [(0, v), (1, v2), (5, pt N26 0), (7, u319), (8, pt N329 0), (9, pt N341 0), (10, .int .i64 ((i : Nat) : Int))] a ∧ mm = ks320.length - i ∧ (i ≤ ks320.length) ∧ (VaM (kdM ks320 i)) ∧ MsO x N26 sA ∧ NtM x u319 ks320 ∧ MsO x N329 (kdM ks320 i) ∧ MdO x N341 (kdM ks320 i) ∧ Below w.heap.size w x) (ks320.length - 0) ?_ ?_
       have hX354 := NtM.below hN322 hb332
       have hX355 := NtM.new hX354 hg342
       have hB356 := hb_call hB328 hb332
       have hB357 := hb_new hB356 hg342
       · exact ⟨0, h353.sub ⟨rfl, rfl, rfl, rfl, rfl, rfl, (slot_eq rfl (congrArg (Value.int .i64) (by first | rfl | omega))), trivial⟩, rfl, by omega, by exact hva9, hX351, hX355, (by rw [kd_0]; exact hX352), (by rw [kd_0]; exact hD349), hB357⟩
       · rintro k358 a359 w360 ⟨i, h359, rfl, hi361, hi362, hf363, hf364, hf365, hf366, hB367⟩
         have hz368 := hB367.size
         have hVt2 : VaM (kdM ks320 i) := by assumption
         refine co_seq ?_
         refine co_seq ?_
         refine co_reg ?_
         refine pk0 (v := .int .i64 ((i : Nat) : Int)) h359 rfl fun a369 h369 => ?_; clear h359
         refine pk0 (v := u319) h369 rfl fun a370 h370 => ?_; clear h369
         refine pk (v := .int .i64 ((ks320.length : Nat) : Int)) h370 rfl (rn_len rfl rfl Try.underlying22 (NtM.sl hf364)) fun a371 h371 => ?_; clear h370
         refine pk0 (v := .bool (decide (((i : Nat) : Int) < ((ks320.length : Nat) : Int)))) h371 rfl fun a372 h372 => ?_; clear h371
         refine pl_nil ?_
         refine co_then ?_
         cases hc373 : (decide (((i : Nat) : Int) < ((ks320.length : Nat) : Int)))
         ·
          rw [hc373] at h372
          have hp374 : ¬ (((i : Nat) : Int) < ((ks320.length : Nat) : Int)) := of_decide_eq_false hc373
          clear hc373
          refine co_false h372 rfl ?_
          refine wp_exit ?_
          refine co_thenX ?_
          refine co_thenX ?_
          refine co_blockX ?_
          refine co_then ?_
          refine co_seq ?_
          refine co_seq ?_
          refine co_reg ?_
          refine pk0 (v := .int .i64 0) h372 rfl fun a375 h375 => ?_; clear h372
          refine pl_nil ?_
          refine co_then ?_
          refine wp_block ?_
          have hfin := RunM.fin hRun (i := i) (by omega)
          have hva9 := hVA1
          have h376 : Slots 107 [(1, v2), (5, pt N26 0), (8, pt N329 0), (9, pt N341 0), (11, .int .i64 0)] _ := h375.sub ⟨rfl, rfl, rfl, rfl, rfl, trivial⟩; clear h375
          refine co_loop (fun mm a x => ∃ (j : Nat) (sB : MsT), Slots 107 [(1, v2), (5, pt N26 0), (8, pt N329 0), (9, pt N341 0), (11, .int .i64 ((j : Nat) : Int))] a ∧ mm = l2.length - j ∧ (j ≤ l2.length) ∧ (j ≤ 20) ∧ (VaM sB) ∧ MsO x N26 sB ∧ MsO x N329 sB ∧ MdO x N341 sB ∧ Below w.heap.size w x) (l2.length - 0) ?_ ?_
          · exact ⟨0, sA, h376.sub ⟨rfl, rfl, rfl, rfl, (slot_eq rfl (congrArg (Value.int .i64) (by first | rfl | omega))), trivial⟩, rfl, by omega, by omega, by exact hva9, hf363, (by rw [← hfin]; exact hf365), (by rw [← hfin]; exact hf366), hB367⟩
          · rintro k377 a378 w379 ⟨j, sB, h378, rfl, hi380, hi381, hi382, hf383, hf384, hf385, hB386⟩
            have hz387 := hB386.size
            have hVA3 : VaM sB := by assumption
            refine co_seq ?_
            refine co_seq ?_
            refine co_reg ?_
            refine pk0 (v := .int .i64 ((j : Nat) : Int)) h378 rfl fun a388 h388 => ?_; clear h378
            refine pk0 (v := v2) h388 rfl fun a389 h389 => ?_; clear h388
            refine pk (v := .int .i64 ((l2.length : Nat) : Int)) h389 rfl (rn_len rfl rfl Try.underlying22 (hs2.below hB386)) fun a390 h390 => ?_; clear h389
            refine pk0 (v := .bool (decide (((j : Nat) : Int) < ((l2.length : Nat) : Int)))) h390 rfl fun a391 h391 => ?_; clear h390
            refine pk0 (v := .bool (decide (((j : Nat) : Int) < ((l2.length : Nat) : Int)))) h391 rfl fun a392 h392 => ?_; clear h391
            cases hc393 : (decide (((j : Nat) : Int) < ((l2.length : Nat) : Int)))
            ·
             rw [hc393] at h392
             have hp394 : ¬ (((j : Nat) : Int) < ((l2.length : Nat) : Int)) := of_decide_eq_false hc393
             clear hc393
             refine psk h392 rfl fun a395 h395 => ?_; clear h392
             refine psk h395 rfl fun a396 h396 => ?_; clear h395
             refine pk0 (v := .bool false) h396 rfl fun a397 h397 => ?_; clear h396
             refine pl_nil ?_
             refine co_then ?_
             refine co_false h397 rfl ?_
             refine wp_exit ?_
             refine co_thenX ?_
             refine co_thenX ?_
             refine co_blockX ?_
             refine co_then ?_
             refine co_seq ?_
             refine co_reg ?_
             refine pk0 (v := pt N26 0) h397 rfl fun a398 h398 => ?_; clear h397
             refine pk0 (v := pt N341 0) h398 rfl fun a399 h399 => ?_; clear h398
             refine pw h399 rfl (op_call (args := #[pt N26 0, pt N341 0]) (R := fun res xw => res = .int .i64 1 ∧ Below w379.heap.size w379 xw) rfl rfl rfl (by kernel_rfl) (by kernel_rfl) (Try.call11 _ _) (moSame hf383 hf385 hVA3) (by rintro e x ⟨rfl, h⟩; exact ⟨_, rfl, rfl, h⟩)) ?_; clear h399
             rintro _ w401 a400 ⟨rfl, hb402⟩ h400
             have hz403 := hb402.size
             refine pk0 (v := .bool ((1 : Int) != 0)) h400 rfl fun a404 h404 => ?_; clear h400
             refine pk0 (v := .bool ((1 : Int) != 0)) h404 rfl fun a405 h405 => ?_; clear h404
             have hc406 : ((1 : Int) != 0) = true := by first | (simp; done) | (simp; omega) | exact beq_false_of_ne (by omega) | exact beq_iff_eq.2 (by omega)
             rw [hc406] at h405; clear hc406
             refine pk0 (v := pt N329 0) h405 rfl fun a407 h407 => ?_; clear h405
             refine pk0 (v := pt N341 0) h407 rfl fun a408 h408 => ?_; clear h407
             have hB411 := hb_call hB386 hb402
             have hX412 := MsO.below hf384 hb402
             have hX413 := MdO.below hf385 hb402
             refine pw h408 rfl (op_call (args := #[pt N329 0, pt N341 0]) (R := fun res xw => res = .int .i64 1 ∧ Below w401.heap.size w401 xw) rfl rfl rfl (by kernel_rfl) (by kernel_rfl) (Try.call11 _ _) (moSame hX412 hX413 hVA3) (by rintro e x ⟨rfl, h⟩; exact ⟨_, rfl, rfl, h⟩)) ?_; clear h408
             rintro _ w410 a409 ⟨rfl, hb414⟩ h409
             have hz415 := hb414.size
             refine pk0 (v := .bool ((1 : Int) != 0)) h409 rfl fun a416 h416 => ?_; clear h409
             refine pk0 (v := .bool ((1 : Int) != 0)) h416 rfl fun a417 h417 => ?_; clear h416
             refine pk0 (v := .bool ((1 : Int) != 0)) h417 rfl fun a418 h418 => ?_; clear h417
             have hc419 : ((1 : Int) != 0) = true := by first | (simp; done) | (simp; omega) | exact beq_false_of_ne (by omega) | exact beq_iff_eq.2 (by omega)
             rw [hc419] at h418; clear hc419
             have hB422 := hb_call hB411 hb414
             have hX423 := MsO.below hf383 hb402
             have hX424 := MsO.below hX423 hb414
             refine pw h418 rfl (op_call (args := #[]) (R := fun res xw => res = .bool true ∧ Below w410.heap.size w410 xw) rfl rfl rfl (by kernel_rfl) (by kernel_rfl) (Try.call6 _ _) (awake28 w410) (by rintro e x ⟨rfl, h⟩; exact ⟨_, rfl, rfl, h⟩)) ?_; clear h418
             rintro _ w421 a420 ⟨rfl, hb425⟩ h420
             have hz426 := hb425.size
             refine pk0 (v := .bool true) h420 rfl fun a427 h427 => ?_; clear h420
             refine pk0 (v := .bool true) h427 rfl fun a428 h428 => ?_; clear h427
             refine pl_nil ?_
             refine co_then ?_
             refine wp_ret ?_
             refine co_ret1 h428 rfl rfl ?_
             have hB429 := hb_call hB422 hb425
             exact ⟨rfl, hB429⟩
            ·
             rw [hc393] at h392
             have hp430 : ((j : Nat) : Int) < ((l2.length : Nat) : Int) := of_decide_eq_true hc393
             clear hc393
             refine pk0 (v := .int .i64 ((j : Nat) : Int)) h392 rfl fun a431 h431 => ?_; clear h392
             refine pk0 (v := .bool (decide (((j : Nat) : Int) < 20))) h431 rfl fun a432 h432 => ?_; clear h431
             refine pk0 (v := .bool (decide (((j : Nat) : Int) < 20))) h432 rfl fun a433 h433 => ?_; clear h432
             refine pl_nil ?_
             refine co_then ?_
             cases hc434 : (decide (((j : Nat) : Int) < 20))
             ·
              rw [hc434] at h433
              have hp435 : ¬ (((j : Nat) : Int) < 20) := of_decide_eq_false hc434
              clear hc434
              refine co_false h433 rfl ?_
              refine wp_exit ?_
              refine co_thenX ?_
              refine co_thenX ?_
              refine co_blockX ?_
              refine co_then ?_
              refine co_seq ?_
              refine co_reg ?_
              refine pk0 (v := pt N26 0) h433 rfl fun a436 h436 => ?_; clear h433
              refine pk0 (v := pt N341 0) h436 rfl fun a437 h437 => ?_; clear h436
              refine pw h437 rfl (op_call (args := #[pt N26 0, pt N341 0]) (R := fun res xw => res = .int .i64 1 ∧ Below w379.heap.size w379 xw) rfl rfl rfl (by kernel_rfl) (by kernel_rfl) (Try.call11 _ _) (moSame hf383 hf385 hVA3) (by rintro e x ⟨rfl, h⟩; exact ⟨_, rfl, rfl, h⟩)) ?_; clear h437
              rintro _ w439 a438 ⟨rfl, hb440⟩ h438
              have hz441 := hb440.size
              refine pk0 (v := .bool ((1 : Int) != 0)) h438 rfl fun a442 h442 => ?_; clear h438
              refine pk0 (v := .bool ((1 : Int) != 0)) h442 rfl fun a443 h443 => ?_; clear h442
              have hc444 : ((1 : Int) != 0) = true := by first | (simp; done) | (simp; omega) | exact beq_false_of_ne (by omega) | exact beq_iff_eq.2 (by omega)
              rw [hc444] at h443; clear hc444
              refine pk0 (v := pt N329 0) h443 rfl fun a445 h445 => ?_; clear h443
              refine pk0 (v := pt N341 0) h445 rfl fun a446 h446 => ?_; clear h445
              have hB449 := hb_call hB386 hb440
              have hX450 := MsO.below hf384 hb440
              have hX451 := MdO.below hf385 hb440
              refine pw h446 rfl (op_call (args := #[pt N329 0, pt N341 0]) (R := fun res xw => res = .int .i64 1 ∧ Below w439.heap.size w439 xw) rfl rfl rfl (by kernel_rfl) (by kernel_rfl) (Try.call11 _ _) (moSame hX450 hX451 hVA3) (by rintro e x ⟨rfl, h⟩; exact ⟨_, rfl, rfl, h⟩)) ?_; clear h446
              rintro _ w448 a447 ⟨rfl, hb452⟩ h447
              have hz453 := hb452.size
              refine pk0 (v := .bool ((1 : Int) != 0)) h447 rfl fun a454 h454 => ?_; clear h447
              refine pk0 (v := .bool ((1 : Int) != 0)) h454 rfl fun a455 h455 => ?_; clear h454
              refine pk0 (v := .bool ((1 : Int) != 0)) h455 rfl fun a456 h456 => ?_; clear h455
              have hc457 : ((1 : Int) != 0) = true := by first | (simp; done) | (simp; omega) | exact beq_false_of_ne (by omega) | exact beq_iff_eq.2 (by omega)
              rw [hc457] at h456; clear hc457
              have hB460 := hb_call hB449 hb452
              have hX461 := MsO.below hf383 hb440
              have hX462 := MsO.below hX461 hb452
              refine pw h456 rfl (op_call (args := #[]) (R := fun res xw => res = .bool true ∧ Below w448.heap.size w448 xw) rfl rfl rfl (by kernel_rfl) (by kernel_rfl) (Try.call6 _ _) (awake28 w448) (by rintro e x ⟨rfl, h⟩; exact ⟨_, rfl, rfl, h⟩)) ?_; clear h456
              rintro _ w459 a458 ⟨rfl, hb463⟩ h458
              have hz464 := hb463.size
              refine pk0 (v := .bool true) h458 rfl fun a465 h465 => ?_; clear h458
              refine pk0 (v := .bool true) h465 rfl fun a466 h466 => ?_; clear h465
              refine pl_nil ?_
              refine co_then ?_
              refine wp_ret ?_
              refine co_ret1 h466 rfl rfl ?_
              have hB467 := hb_call hB460 hb463
              exact ⟨rfl, hB467⟩
             ·
              rw [hc434] at h433
              have hp468 : ((j : Nat) : Int) < 20 := of_decide_eq_true hc434
              clear hc434
              refine co_true h433 rfl ?_
              refine wp_skip ?_
              refine co_then ?_
              refine co_seq ?_
              refine wp_block ?_
              refine co_seq ?_
              refine co_seq ?_
              refine dr_gen (fun x => Below w.heap.size w x) (by kernel_rfl) (fun w469 hg470 => ?_) (fun w469 hg470 => ?_)
              ·
               have hz471 := hg470.size
               have hB472 := hb_new hB386 hg470
               exact hB472
              have hz473 := hg470.size
              have hB474 := hb_new hB386 hg470
              refine dk0 0 (v := pt N26 0) h433 rfl rfl hB474 fun a475 h475 => ?_; clear h433
              refine dk0 1 (v := v2) h475 rfl rfl hB474 fun a476 h476 => ?_; clear h475
              refine dk0 2 (v := .int .i64 ((j : Nat) : Int)) h476 rfl rfl hB474 fun a477 h477 => ?_; clear h476
              obtain ⟨y478, hy478⟩ : ∃ z, l2[j]? = some z := ⟨_, List.getElem?_eq_getElem (by first | omega | (simp; done) | (simp; omega))⟩
              have oky478 := hok2 _ (List.mem_of_getElem? hy478)
              refine dk 3 (v := pt (blkOf v2) (offOf v2 + j * 18)) h477 rfl rfl hB474 (fun x hx => (rn_index rfl rfl rfl Try.underlying22 Try.sizeOf44 (hs2.below hx) (by omega) (by first | omega | (simp; done) | (simp; omega)))) fun a479 h479 => ?_; clear h477
              refine dk 4 (v := .agg #[.int .i64 y478.d.k, .int .i64 y478.d.n, .int .u64 y478.d.t, .int .i64 y478.d.ep, y478.mv, .int .u64 y478.d.fl, y478.lv, .int .i64 y478.d.ec, .int .i64 y478.d.er, y478.ev, .int .u64 y478.d.ets, .int .i64 y478.d.pid, .int .u64 y478.d.pat, .int .i64 y478.d.plf, .int .i64 y478.d.sc, .int .i64 y478.d.sr, .int .i64 y478.d.se, .int .i64 y478.d.sp]) h479 rfl rfl hB474 (fun x hx => (rn_loadN rfl rfl Try.underlying44 rfl (by kernel_rfl) (sl_at (hs2.below hx) hy478))) fun a480 h480 => ?_; clear h479
              refine dk0 6 (v := pt N329 0) h480 rfl rfl hB474 fun a481 h481 => ?_; clear h480
              refine dk0 7 (v := v2) h481 rfl rfl hB474 fun a482 h482 => ?_; clear h481
              refine dk0 8 (v := .int .i64 ((j : Nat) : Int)) h482 rfl rfl hB474 fun a483 h483 => ?_; clear h482
              refine dk 9 (v := pt (blkOf v2) (offOf v2 + j * 18)) h483 rfl rfl hB474 (fun x hx => (rn_index rfl rfl rfl Try.underlying22 Try.sizeOf44 (hs2.below hx) (by omega) (by first | omega | (simp; done) | (simp; omega)))) fun a484 h484 => ?_; clear h483
              refine dk 10 (v := .agg #[.int .i64 y478.d.k, .int .i64 y478.d.n, .int .u64 y478.d.t, .int .i64 y478.d.ep, y478.mv, .int .u64 y478.d.fl, y478.lv, .int .i64 y478.d.ec, .int .i64 y478.d.er, y478.ev, .int .u64 y478.d.ets, .int .i64 y478.d.pid, .int .u64 y478.d.pat, .int .i64 y478.d.plf, .int .i64 y478.d.sc, .int .i64 y478.d.sr, .int .i64 y478.d.se, .int .i64 y478.d.sp]) h484 rfl rfl hB474 (fun x hx => (rn_loadN rfl rfl Try.underlying44 rfl (by kernel_rfl) (sl_at (hs2.below hx) hy478))) fun a485 h485 => ?_; clear h484
              have hX491 := MsO.new hf383 hg470
              have ho488 := MsO.off hX491
              refine d1 5 h485 rfl rfl (op_call (args := #[pt N26 0, .agg #[.int .i64 y478.d.k, .int .i64 y478.d.n, .int .u64 y478.d.t, .int .i64 y478.d.ep, y478.mv, .int .u64 y478.d.fl, y478.lv, .int .i64 y478.d.ec, .int .i64 y478.d.er, y478.ev, .int .u64 y478.d.ets, .int .i64 y478.d.pid, .int .u64 y478.d.pat, .int .i64 y478.d.plf, .int .i64 y478.d.sc, .int .i64 y478.d.sr, .int .i64 y478.d.se, .int .i64 y478.d.sp]]) (R := fun res xw => res = .int .i64 (apM y478.d sB).1 ∧ MsO xw N26 (apM y478.d sB).2 ∧ But (fun q => q = N26) w469 xw) rfl rfl rfl (by kernel_rfl) (by kernel_rfl) (Try.call8 _ _) (msApply w469 y478.mv y478.lv y478.ev hX491 (by have := hVA3.lg4; omega) (oky478.hm.below hB474) (oky478.hg.below hB474) (oky478.he.below hB474) oky478.hR (sl_offM oky478.hm (memE_ne _) (by omega)) (sl_offM oky478.hg (intE_ne _) (by omega)) (sl_offM oky478.he (fun _ _ e => by cases e) (by omega))) (by rintro e x ⟨rfl, h⟩; exact ⟨_, rfl, rfl, h⟩)) ?_ ?_; clear h485
              ·
               rintro _ w487 ⟨rfl, hO489, hb490⟩
               have hz492 := hb490.size
               have hB493 := hb_foot hB474 hb490 (fun i hlt hS => by (try simp at hS); first | omega | (simp; omega) | simp_all)
               exact hB493
              rintro _ w487 a486 ⟨rfl, hO489, hb490⟩ h486
              have hz492 := hb490.size
              have hB493 := hb_foot hB474 hb490 (fun i hlt hS => by (try simp at hS); first | omega | (simp; omega) | simp_all)
              have hX496 := MsO.new hf384 hg470
              have hX497 := MsO.foot hX496 ho488 (by omega) hb490
              have hX498 := MdO.new hf385 hg470
              have hX499 := MdO.foot hX498 ho488 (by omega) hb490
              have ho500 := MsO.off hX497
              refine d1 11 h486 rfl rfl (op_call (args := #[pt N329 0, .agg #[.int .i64 y478.d.k, .int .i64 y478.d.n, .int .u64 y478.d.t, .int .i64 y478.d.ep, y478.mv, .int .u64 y478.d.fl, y478.lv, .int .i64 y478.d.ec, .int .i64 y478.d.er, y478.ev, .int .u64 y478.d.ets, .int .i64 y478.d.pid, .int .u64 y478.d.pat, .int .i64 y478.d.plf, .int .i64 y478.d.sc, .int .i64 y478.d.sr, .int .i64 y478.d.se, .int .i64 y478.d.sp]]) (R := fun res xw => res = .int .i64 (apM y478.d sB).1 ∧ MsO xw N329 (apM y478.d sB).2 ∧ But (fun q => q = N329) w487 xw) rfl rfl rfl (by kernel_rfl) (by kernel_rfl) (Try.call8 _ _) (msApply w487 y478.mv y478.lv y478.ev hX497 (by have := hVA3.lg4; omega) (oky478.hm.below hB493) (oky478.hg.below hB493) (oky478.he.below hB493) oky478.hR (sl_offM oky478.hm (memE_ne _) (by omega)) (sl_offM oky478.hg (intE_ne _) (by omega)) (sl_offM oky478.he (fun _ _ e => by cases e) (by omega))) (by rintro e x ⟨rfl, h⟩; exact ⟨_, rfl, rfl, h⟩)) ?_ ?_; clear h486
              ·
               rintro _ w495 ⟨rfl, hO501, hb502⟩
               have hz503 := hb502.size
               have hB504 := hb_foot hB493 hb502 (fun i hlt hS => by (try simp at hS); first | omega | (simp; omega) | simp_all)
               exact hB504
              rintro _ w495 a494 ⟨rfl, hO501, hb502⟩ h494
              have hz503 := hb502.size
              have hB504 := hb_foot hB493 hb502 (fun i hlt hS => by (try simp at hS); first | omega | (simp; omega) | simp_all)
              refine dk0 12 (v := .bool ((apM y478.d sB).1 != (apM y478.d sB).1)) h494 rfl rfl hB504 fun a505 h505 => ?_; clear h494
              refine dr_done (by kernel_rfl) ?_
              refine co_then ?_
              have hc506 : ((apM y478.d sB).1 != (apM y478.d sB).1) = false := by first | (simp; done) | (simp; omega) | exact beq_false_of_ne (by omega) | exact beq_iff_eq.2 (by omega)
              rw [hc506] at h505; clear hc506
              refine co_false h505 rfl ?_
              refine wp_skip ?_
              refine co_then ?_
              refine co_reg ?_
              refine pk0 (v := pt N341 0) h505 rfl fun a507 h507 => ?_; clear h505
              refine pk0 (v := v2) h507 rfl fun a508 h508 => ?_; clear h507
              refine pk0 (v := .int .i64 ((j : Nat) : Int)) h508 rfl fun a509 h509 => ?_; clear h508
              refine pk (v := pt (blkOf v2) (offOf v2 + j * 18)) h509 rfl (rn_index rfl rfl rfl Try.underlying22 Try.sizeOf44 (hs2.below hB504) (by omega) (by first | omega | (simp; done) | (simp; omega))) fun a510 h510 => ?_; clear h509
              refine pk (v := .agg #[.int .i64 y478.d.k, .int .i64 y478.d.n, .int .u64 y478.d.t, .int .i64 y478.d.ep, y478.mv, .int .u64 y478.d.fl, y478.lv, .int .i64 y478.d.ec, .int .i64 y478.d.er, y478.ev, .int .u64 y478.d.ets, .int .i64 y478.d.pid, .int .u64 y478.d.pat, .int .i64 y478.d.plf, .int .i64 y478.d.sc, .int .i64 y478.d.sr, .int .i64 y478.d.se, .int .i64 y478.d.sp]) h510 rfl (rn_loadN rfl rfl Try.underlying44 rfl (by kernel_rfl) (sl_at (hs2.below hB504) hy478)) fun a511 h511 => ?_; clear h510
              have hX517 := MdO.foot hX499 ho500 (by omega) hb502
              have ho514 := MdO.off hX517
              refine pw h511 rfl (op_call (args := #[pt N341 0, .agg #[.int .i64 y478.d.k, .int .i64 y478.d.n, .int .u64 y478.d.t, .int .i64 y478.d.ep, y478.mv, .int .u64 y478.d.fl, y478.lv, .int .i64 y478.d.ec, .int .i64 y478.d.er, y478.ev, .int .u64 y478.d.ets, .int .i64 y478.d.pid, .int .u64 y478.d.pat, .int .i64 y478.d.plf, .int .i64 y478.d.sc, .int .i64 y478.d.sr, .int .i64 y478.d.se, .int .i64 y478.d.sp]]) (R := fun res xw => res = .int .i64 (apM y478.d sB).1 ∧ MdO xw N341 (apM y478.d sB).2 ∧ But (fun q => q = N341) w495 xw) rfl rfl rfl (by kernel_rfl) (by kernel_rfl) (Try.call10 _ _) (mdApply w495 y478.mv y478.lv y478.ev hX517 hVA3 (oky478.hm.below hB504) (oky478.hg.below hB504) (oky478.he.below hB504) oky478.hR (sl_offM oky478.hm (memE_ne _) (by omega)) (sl_offM oky478.hg (intE_ne _) (by omega)) (sl_offM oky478.he (fun _ _ e => by cases e) (by omega))) (by rintro e x ⟨rfl, h⟩; exact ⟨_, rfl, rfl, h⟩)) ?_; clear h511
              rintro _ w513 a512 ⟨rfl, hO515, hb516⟩ h512
              have hz518 := hb516.size
              refine pl_nil ?_
              refine co_blockN ?_
              refine co_then ?_
              refine co_reg ?_
              refine pk0 (v := .int .i64 ((j : Nat) : Int)) h512 rfl fun a519 h519 => ?_; clear h512
              refine pk (v := .int .i64 ((j + 1 : Nat) : Int)) h519 rfl (rn_arith' rfl rfl rfl rfl rfl rfl (IntWalk.i64_in _ (by omega)) (by omega)) fun a520 h520 => ?_; clear h519
              refine pk0 (v := .int .i64 ((j + 1 : Nat) : Int)) h520 rfl fun a521 h521 => ?_; clear h520
              refine pl_nil ?_
              refine co_then ?_
              refine ⟨(l2.length - (j + 1)), by omega, ?_⟩
              have hva9 := hVA3.ap oky478.hR
              have hX522 := MsO.foot hO489 ho500 (by omega) hb502
              have hX523 := MsO.foot hX522 ho514 (by omega) hb516
              have hX524 := MsO.foot hO501 ho514 (by omega) hb516
              have hB525 := hb_foot hB504 hb516 (fun i hlt hS => by (try simp at hS); first | omega | (simp; omega) | simp_all)
              exact ⟨j + 1, (apM y478.d sB).2, h521.sub ⟨rfl, rfl, rfl, rfl, rfl, trivial⟩, rfl, by omega, by omega, by exact hva9, hX523, hX524, hO515, hB525⟩
         ·
          rw [hc373] at h372
          have hp526 : ((i : Nat) : Int) < ((ks320.length : Nat) : Int) := of_decide_eq_true hc373
          clear hc373
          refine co_true h372 rfl ?_
          refine wp_skip ?_
          refine co_then ?_
          refine co_seq ?_
          refine wp_block ?_
          refine co_seq ?_
          refine co_reg ?_
          refine pk0 (v := pt N329 0) h372 rfl fun a527 h527 => ?_; clear h372
          refine pk0 (v := u319) h527 rfl fun a528 h528 => ?_; clear h527
          refine pk0 (v := .int .i64 ((i : Nat) : Int)) h528 rfl fun a529 h529 => ?_; clear h528
          obtain ⟨y530, hy530⟩ : ∃ z, ks320[i]? = some z := ⟨_, List.getElem?_eq_getElem (by first | omega | (simp; done) | (simp; omega))⟩
          refine pk (v := pt (blkOf u319) (offOf u319 + i * 18)) h529 rfl (rn_index rfl rfl rfl Try.underlying22 Try.sizeOf44 (NtM.sl hf364) (by omega) (by first | omega | (simp; done) | (simp; omega))) fun a531 h531 => ?_; clear h529
          refine pk (v := .agg #[.int .i64 y530.d.k, .int .i64 y530.d.n, .int .u64 y530.d.t, .int .i64 y530.d.ep, y530.mv, .int .u64 y530.d.fl, y530.lv, .int .i64 y530.d.ec, .int .i64 y530.d.er, y530.ev, .int .u64 y530.d.ets, .int .i64 y530.d.pid, .int .u64 y530.d.pat, .int .i64 y530.d.plf, .int .i64 y530.d.sc, .int .i64 y530.d.sr, .int .i64 y530.d.se, .int .i64 y530.d.sp]) h531 rfl (rn_loadN rfl rfl Try.underlying44 rfl (by kernel_rfl) (sl_at (NtM.sl hf364) hy530)) fun a532 h532 => ?_; clear h531
          have ho535 := MsO.off hf365
          have hn1538 := NtM.one hf364 hy530
          have hr0539 := kd_r hRun hy530
          refine pw h532 rfl (op_call (args := #[pt N329 0, .agg #[.int .i64 y530.d.k, .int .i64 y530.d.n, .int .u64 y530.d.t, .int .i64 y530.d.ep, y530.mv, .int .u64 y530.d.fl, y530.lv, .int .i64 y530.d.ec, .int .i64 y530.d.er, y530.ev, .int .u64 y530.d.ets, .int .i64 y530.d.pid, .int .u64 y530.d.pat, .int .i64 y530.d.plf, .int .i64 y530.d.sc, .int .i64 y530.d.sr, .int .i64 y530.d.se, .int .i64 y530.d.sp]]) (R := fun res xw => res = .int .i64 (apM y530.d (kdM ks320 i)).1 ∧ MsO xw N329 (apM y530.d (kdM ks320 i)).2 ∧ But (fun q => q = N329) w360 xw) rfl rfl rfl (by kernel_rfl) (by kernel_rfl) (Try.call8 _ _) (msApply w360 y530.mv y530.lv y530.ev hf365 (by have := hVt2.lg4; omega) hn1538.ok.hm hn1538.ok.hg hn1538.ok.he hn1538.hR (NtR.offM hn1538 ho535) (NtR.offG hn1538 ho535) (NtR.offE hn1538)) (by rintro e x ⟨rfl, h⟩; exact ⟨_, rfl, rfl, h⟩)) ?_; clear h532
          rintro _ w534 a533 ⟨rfl, hO536, hb537⟩ h533
          have hz540 := hb537.size
          refine pk0 (v := .bool ((apM y530.d (kdM ks320 i)).1 != 0)) h533 rfl fun a541 h541 => ?_; clear h533
          refine pk0 (v := .bool ((apM y530.d (kdM ks320 i)).1 != 0)) h541 rfl fun a542 h542 => ?_; clear h541
          have hc543 : ((apM y530.d (kdM ks320 i)).1 != 0) = false := by first | (simp; done) | (simp; omega) | exact beq_false_of_ne (by omega) | exact beq_iff_eq.2 (by omega)
          rw [hc543] at h542; clear hc543
          refine pk0 (v := pt N341 0) h542 rfl fun a544 h544 => ?_; clear h542
          refine pk0 (v := u319) h544 rfl fun a545 h545 => ?_; clear h544
          refine pk0 (v := .int .i64 ((i : Nat) : Int)) h545 rfl fun a546 h546 => ?_; clear h545
          have hX547 := NtM.foot hf364 ho535 hb537
          refine pk (v := pt (blkOf u319) (offOf u319 + i * 18)) h546 rfl (rn_index rfl rfl rfl Try.underlying22 Try.sizeOf44 (NtM.sl hX547) (by omega) (by first | omega | (simp; done) | (simp; omega))) fun a548 h548 => ?_; clear h546
          refine pk (v := .agg #[.int .i64 y530.d.k, .int .i64 y530.d.n, .int .u64 y530.d.t, .int .i64 y530.d.ep, y530.mv, .int .u64 y530.d.fl, y530.lv, .int .i64 y530.d.ec, .int .i64 y530.d.er, y530.ev, .int .u64 y530.d.ets, .int .i64 y530.d.pid, .int .u64 y530.d.pat, .int .i64 y530.d.plf, .int .i64 y530.d.sc, .int .i64 y530.d.sr, .int .i64 y530.d.se, .int .i64 y530.d.sp]) h548 rfl (rn_loadN rfl rfl Try.underlying44 rfl (by kernel_rfl) (sl_at (NtM.sl hX547) hy530)) fun a549 h549 => ?_; clear h548
          have hB552 := hb_foot hB367 hb537 (fun i hlt hS => by (try simp at hS); first | omega | (simp; omega) | simp_all)
          have hX556 := MdO.foot hf366 ho535 (by omega) hb537
          have ho553 := MdO.off hX556
          have hn1557 := NtM.one hX547 hy530
          have hr0558 := kd_r hRun hy530
          refine pw h549 rfl (op_call (args := #[pt N341 0, .agg #[.int .i64 y530.d.k, .int .i64 y530.d.n, .int .u64 y530.d.t, .int .i64 y530.d.ep, y530.mv, .int .u64 y530.d.fl, y530.lv, .int .i64 y530.d.ec, .int .i64 y530.d.er, y530.ev, .int .u64 y530.d.ets, .int .i64 y530.d.pid, .int .u64 y530.d.pat, .int .i64 y530.d.plf, .int .i64 y530.d.sc, .int .i64 y530.d.sr, .int .i64 y530.d.se, .int .i64 y530.d.sp]]) (R := fun res xw => res = .int .i64 (apM y530.d (kdM ks320 i)).1 ∧ MdO xw N341 (apM y530.d (kdM ks320 i)).2 ∧ But (fun q => q = N341) w534 xw) rfl rfl rfl (by kernel_rfl) (by kernel_rfl) (Try.call10 _ _) (mdApply w534 y530.mv y530.lv y530.ev hX556 hVt2 hn1557.ok.hm hn1557.ok.hg hn1557.ok.he hn1557.hR (NtR.offM hn1557 ho553) (NtR.offG hn1557 ho553) (NtR.offE hn1557)) (by rintro e x ⟨rfl, h⟩; exact ⟨_, rfl, rfl, h⟩)) ?_; clear h549
          rintro _ w551 a550 ⟨rfl, hO554, hb555⟩ h550
          have hz559 := hb555.size
          refine pk0 (v := .bool ((apM y530.d (kdM ks320 i)).1 != 0)) h550 rfl fun a560 h560 => ?_; clear h550
          refine pk0 (v := .bool ((apM y530.d (kdM ks320 i)).1 != 0)) h560 rfl fun a561 h561 => ?_; clear h560
          refine pl_nil ?_
          refine co_then ?_
          have hc562 : ((apM y530.d (kdM ks320 i)).1 != 0) = false := by first | (simp; done) | (simp; omega) | exact beq_false_of_ne (by omega) | exact beq_iff_eq.2 (by omega)
          rw [hc562] at h561; clear hc562
          refine co_false h561 rfl ?_
          refine wp_skip ?_
          refine co_blockN ?_
          refine co_then ?_
          refine co_reg ?_
          refine pk0 (v := .int .i64 ((i : Nat) : Int)) h561 rfl fun a563 h563 => ?_; clear h561
          refine pk (v := .int .i64 ((i + 1 : Nat) : Int)) h563 rfl (rn_arith' rfl rfl rfl rfl rfl rfl (IntWalk.i64_in _ (by omega)) (by omega)) fun a564 h564 => ?_; clear h563
          refine pk0 (v := .int .i64 ((i + 1 : Nat) : Int)) h564 rfl fun a565 h565 => ?_; clear h564
          refine pl_nil ?_
          refine co_then ?_
          refine ⟨(ks320.length - (i + 1)), by omega, ?_⟩
          have hva9 : VaM (kdM ks320 (i + 1)) := by rw [kd_s hy530]; exact hVt2.ap hn1557.hR
          have hX566 := MsO.foot hf363 ho535 (by omega) hb537
          have hX567 := MsO.foot hX566 ho553 (by omega) hb555
          have hX568 := NtM.foot hX547 ho553 hb555
          have hX569 := MsO.foot hO536 ho553 (by omega) hb555
          have hB570 := hb_foot hB552 hb555 (fun i hlt hS => by (try simp at hS); first | omega | (simp; omega) | simp_all)
          exact ⟨i + 1, h565.sub ⟨rfl, rfl, rfl, rfl, rfl, rfl, rfl, trivial⟩, rfl, by omega, by exact hva9, hX567, hX568, (by rw [kd_s hy530]; exact hX569), (by rw [kd_s hy530]; exact hO554), hB570⟩
      ·
       rw [hc314] at h313
       have hp571 : ((ia : Nat) : Int) < 40 := of_decide_eq_true hc314
       clear hc314
       refine co_true h313 rfl ?_
       refine wp_skip ?_
       refine co_then ?_
       refine co_seq ?_
       refine wp_block ?_
       refine co_reg ?_
       refine pk0 (v := pt N26 0) h313 rfl fun a572 h572 => ?_; clear h313
       refine pk0 (v := v) h572 rfl fun a573 h573 => ?_; clear h572
       refine pk0 (v := .int .i64 ((ia : Nat) : Int)) h573 rfl fun a574 h574 => ?_; clear h573
       obtain ⟨y575, hy575⟩ : ∃ z, l[ia]? = some z := ⟨_, List.getElem?_eq_getElem (by first | omega | (simp; done) | (simp; omega))⟩
       have oky575 := hok _ (List.mem_of_getElem? hy575)
       refine pk (v := pt (blkOf v) (offOf v + ia * 18)) h574 rfl (rn_index rfl rfl rfl Try.underlying22 Try.sizeOf44 (hs.below hB43) (by omega) (by first | omega | (simp; done) | (simp; omega))) fun a576 h576 => ?_; clear h574
       refine pk (v := .agg #[.int .i64 y575.d.k, .int .i64 y575.d.n, .int .u64 y575.d.t, .int .i64 y575.d.ep, y575.mv, .int .u64 y575.d.fl, y575.lv, .int .i64 y575.d.ec, .int .i64 y575.d.er, y575.ev, .int .u64 y575.d.ets, .int .i64 y575.d.pid, .int .u64 y575.d.pat, .int .i64 y575.d.plf, .int .i64 y575.d.sc, .int .i64 y575.d.sr, .int .i64 y575.d.se, .int .i64 y575.d.sp]) h576 rfl (rn_loadN rfl rfl Try.underlying44 rfl (by kernel_rfl) (sl_at (hs.below hB43) hy575)) fun a577 h577 => ?_; clear h576
       have ho580 := MsO.off hf42
       refine pw h577 rfl (op_call (args := #[pt N26 0, .agg #[.int .i64 y575.d.k, .int .i64 y575.d.n, .int .u64 y575.d.t, .int .i64 y575.d.ep, y575.mv, .int .u64 y575.d.fl, y575.lv, .int .i64 y575.d.ec, .int .i64 y575.d.er, y575.ev, .int .u64 y575.d.ets, .int .i64 y575.d.pid, .int .u64 y575.d.pat, .int .i64 y575.d.plf, .int .i64 y575.d.sc, .int .i64 y575.d.sr, .int .i64 y575.d.se, .int .i64 y575.d.sp]]) (R := fun res xw => res = .int .i64 (apM y575.d sA).1 ∧ MsO xw N26 (apM y575.d sA).2 ∧ But (fun q => q = N26) w38 xw) rfl rfl rfl (by kernel_rfl) (by kernel_rfl) (Try.call8 _ _) (msApply w38 y575.mv y575.lv y575.ev hf42 (by have := hVA1.lg4; omega) (oky575.hm.below hB43) (oky575.hg.below hB43) (oky575.he.below hB43) oky575.hR (sl_offM oky575.hm (memE_ne _) (by omega)) (sl_offM oky575.hg (intE_ne _) (by omega)) (sl_offM oky575.he (fun _ _ e => by cases e) (by omega))) (by rintro e x ⟨rfl, h⟩; exact ⟨_, rfl, rfl, h⟩)) ?_; clear h577
       rintro _ w579 a578 ⟨rfl, hO581, hb582⟩ h578
       have hz583 := hb582.size
       refine pl_nil ?_
       refine co_blockN ?_
       refine co_then ?_
       refine co_reg ?_
       refine pk0 (v := .int .i64 ((ia : Nat) : Int)) h578 rfl fun a584 h584 => ?_; clear h578
       refine pk (v := .int .i64 ((ia + 1 : Nat) : Int)) h584 rfl (rn_arith' rfl rfl rfl rfl rfl rfl (IntWalk.i64_in _ (by omega)) (by omega)) fun a585 h585 => ?_; clear h584
       refine pk0 (v := .int .i64 ((ia + 1 : Nat) : Int)) h585 rfl fun a586 h586 => ?_; clear h585
       refine pl_nil ?_
       refine co_then ?_
       refine ⟨(l.length - (ia + 1)), by omega, ?_⟩
       have hva9 := hVA1.ap oky575.hR
       have hB587 := hb_foot hB43 hb582 (fun i hlt hS => by (try simp at hS); first | omega | (simp; omega) | simp_all)
       exact ⟨ia + 1, (apM y575.d sA).2, h586.sub ⟨rfl, rfl, rfl, rfl, trivial⟩, rfl, by omega, by omega, by exact hva9, hO581, hB587⟩
  ·
   rw [hc21] at h20
   have hp588 : r16 > 20 := of_decide_eq_true hc21
   clear hc21
   refine co_true h20 rfl ?_
   refine co_seq ?_
   refine co_reg ?_
   refine pw h20 rfl (op_call (args := #[]) (R := fun res xw => res = .bool true ∧ Below w15.heap.size w15 xw) rfl rfl rfl (by kernel_rfl) (by kernel_rfl) (Try.call6 _ _) (awake28 w15) (by rintro e x ⟨rfl, h⟩; exact ⟨_, rfl, rfl, h⟩)) ?_; clear h20
   rintro _ w590 a589 ⟨rfl, hb591⟩ h589
   have hz592 := hb591.size
   refine pk0 (v := .bool true) h589 rfl fun a593 h593 => ?_; clear h589
   refine pl_nil ?_
   refine co_then ?_
   refine wp_ret ?_
   refine co_thenR ?_
   refine co_ret1 h593 rfl rfl ?_
   have hB594 := hb_call hB22 hb591
   exact ⟨rfl, hB594⟩
 ·
  rw [hc10] at h9
  have hp595 : r5 > 20 := of_decide_eq_true hc10
  clear hc10
  refine psk h9 rfl fun a596 h596 => ?_; clear h9
  refine psk h596 rfl fun a597 h597 => ?_; clear h596
  refine psk h597 rfl fun a598 h598 => ?_; clear h597
  refine pk0 (v := .bool true) h598 rfl fun a599 h599 => ?_; clear h598
  refine pl_nil ?_
  refine co_then ?_
  refine co_true h599 rfl ?_
  refine co_seq ?_
  refine co_reg ?_
  refine pw h599 rfl (op_call (args := #[]) (R := fun res xw => res = .bool true ∧ Below w4.heap.size w4 xw) rfl rfl rfl (by kernel_rfl) (by kernel_rfl) (Try.call6 _ _) (awake28 w4) (by rintro e x ⟨rfl, h⟩; exact ⟨_, rfl, rfl, h⟩)) ?_; clear h599
  rintro _ w601 a600 ⟨rfl, hb602⟩ h600
  have hz603 := hb602.size
  refine pk0 (v := .bool true) h600 rfl fun a604 h604 => ?_; clear h600
  refine pl_nil ?_
  refine co_then ?_
  refine wp_ret ?_
  refine co_thenR ?_
  refine co_ret1 h604 rfl rfl ?_
  have hB605 := hb_call hB11 hb602
  exact ⟨rfl, hB605⟩
end Go.Proofs.Ytnjbnndpbegkdaa
