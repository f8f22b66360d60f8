/- Put together: RlgUTp, RlgWTp, RlgXTp, RlgYTp. Conditions: as each says. -/
import Derived.Test.YtniojcnkjehflaaTq3
/- The document's log: Set. Conditions: at most 100 entries, 20 operations each. -/
namespace Go.Proofs.Ytniojcnkjehflaa
open Go.RowKit Go.PlainAid
set_option linter.unusedVariables false


theorem entE_oneK {S : Nat → Prop} {n : Nat} {w : World} {e : EntT} (h : EntK S n w e) : ∀ u ∈ entE e, u.oneCell' = true := by
  intro u hu
  simp [entE] at hu
  rcases hu with rfl | rfl | rfl | rfl
  · rfl
  · rfl
  · exact row_one h.row
  · rfl
/-- What Set makes of the entries, as far as anybody sees. -/
def setL (L : List EntT) (i c r : Int) (l : List OpT) (ts : Int) : List EntT :=
  if setE L i c r l ts ≠ 0 then L else if (L[i.toNat]?).map nmE = some (c, r) then restF L i.toNat ts else L.take i.toNat ++ [EntT.mk c r (.slice none 0 0) l ts]
def clL (L : List EntT) (i k : Nat) : List EntT := L.mapIdx fun j e => if i < j ∧ j < k then { e with ts := 0 } else e
section
variable {L Lk X Mk : List EntT} {i k : Nat} {y y0 : EntT} {q : Int × Int} {c r ts : Int} {l : List OpT} {n : Int}
theorem findN_hit (h : L[k]? = some y) (e : nmE y = q) (hk : k < i) : (findN (L.take i) q).isSome = true := by
  cases hf : findN (L.take i) q with
  | some _ => rfl
  | none => exact absurd e (findN_none.1 hf y (List.mem_of_getElem? (i := k) (by rw [List.getElem?_take, if_pos hk]; exact h)))
theorem findN_next (h0 : findN (L.take k) q = none) (hy : L[k]? = some y) (hn : ¬ nmE y = q) : findN (L.take (k + 1)) q = none := by
  rw [takeE hy, findN_app]; exact h0
  intro z hz e; simp at hz; subst hz; exact hn e
theorem clL_0 (L : List EntT) (i : Nat) : clL L i (i + 1) = L := by
  apply List.ext_getElem?
  intro j
  simp only [clL, List.getElem?_mapIdx]
  cases L[j]? with
  | none => rfl
  | some e => simp only [Option.map_some]; rw [if_neg (by omega)]
theorem clL_len (L : List EntT) (i k : Nat) : (clL L i k).length = L.length := by simp [clL]
theorem clL_step (h : Mk.map e0 = (clL X i k).map e0) (hy : Mk[k]? = some y) (hik : i < k) : (Mk.set k { y with ts := 0 }).map e0 = (clL X i (k + 1)).map e0 := by
  obtain ⟨z, hz, he⟩ := e0_at h hy
  have hz' := hz
  simp only [clL, List.getElem?_mapIdx] at hz'
  rw [Option.map_eq_some_iff] at hz'
  obtain ⟨x, hx, hxz⟩ := hz'
  rw [if_neg (by omega)] at hxz
  subst hxz
  rw [List.map_set, h, show e0 { y with ts := 0 } = e0 { x with ts := 0 } from (e0_with he).symm, ← List.map_set]
  congr 1
  apply List.ext_getElem?
  intro j
  rw [List.getElem?_set]
  by_cases e1 : k = j
  · subst e1
    rw [if_pos rfl, if_pos (by rw [clL_len]; exact (List.getElem?_eq_some_iff.1 hx).1)]
    simp only [clL, List.getElem?_mapIdx, hx, Option.map_some]
    rw [if_pos ⟨hik, by omega⟩]
  · rw [if_neg e1]
    simp only [clL, List.getElem?_mapIdx]
    cases X[j]? with
    | none => rfl
    | some e =>
      simp only [Option.map_some]
      by_cases e3 : i < j ∧ j < k
      · rw [if_pos e3, if_pos ⟨e3.1, by omega⟩]
      · rw [if_neg e3, if_neg (by omega)]
theorem clL_i (L : List EntT) (i k : Nat) : (clL L i k)[i]? = L[i]? := by
  simp only [clL, List.getElem?_mapIdx]
  cases L[i]? with
  | none => rfl
  | some e => simp
theorem clL_ts (h : Mk.map e0 = (clL X i k).map e0) (hy : Mk[i]? = some y) (hy0 : X[i]? = some y0) : y.ts = y0.ts := by
  obtain ⟨z, hz, he⟩ := e0_at h hy
  rw [clL_i, hy0] at hz; cases hz
  exact (e0_ts he).1.symm
theorem clL_end (h : Mk.map e0 = (clL X i k).map e0) (hy : Mk[i]? = some y) (hy0 : X[i]? = some y0) (hk : X.length ≤ k ∨ y0.ts = ts) (h2 : k = i + 1 ∨ ¬ y0.ts = ts) (hlt : i < k) : (Mk.set i { y with ts := ts }).map e0 = (restF X i ts).map e0 := by
  obtain ⟨z, hz, he⟩ := e0_at h hy
  rw [clL_i, hy0] at hz; cases hz
  rw [List.map_set, h, show e0 { y with ts := ts } = e0 { y0 with ts := ts } from (e0_with he).symm, ← List.map_set]
  congr 1
  by_cases e : y0.ts = ts
  · have : k = i + 1 := by rcases h2 with q | q; exact q; exact absurd e q
    subst this
    rw [clL_0, restF_same hy0 e, ← e]
    apply List.ext_getElem?
    intro j
    rw [List.getElem?_set]
    by_cases e1 : i = j
    · subst e1; rw [if_pos rfl, if_pos (List.getElem?_eq_some_iff.1 hy0).1, hy0]
    · rw [if_neg e1]
  · rw [← restF_ne hy0 e (k := k) (by rcases hk with q | q; exact q; exact absurd q e)]
    apply List.ext_getElem?
    intro j
    rw [List.getElem?_set]
    by_cases e1 : i = j
    · subst e1
      rw [if_pos rfl, if_pos (by rw [clL_len]; exact (List.getElem?_eq_some_iff.1 hy0).1)]
      simp only [rsL, List.getElem?_mapIdx, hy0, Option.map_some]
      simp
    · rw [if_neg e1]
      simp only [rsL, clL, List.getElem?_mapIdx]
      cases X[j]? with
      | none => rfl
      | some e => simp only [Option.map_some]; rw [if_neg (show ¬ j = i from fun q => e1 q.symm)]
theorem setE_h (h : ¬ (n < 0 ∨ (L.length : Int) < n)) (hc : ¬ chkB c r l ≠ 0) (h6 : ¬ 100 ≤ n) (hb : (findN (L.take n.toNat) (c, r)).isSome = true) : setE L n c r l ts = 18 := by unfold setE; rw [if_neg h, if_neg hc, if_neg h6, if_pos hb]
theorem setL_no (h : setE L n c r l ts ≠ 0) : setL L n c r l ts = L := by unfold setL; rw [if_pos h]
theorem setL_tw (h : setE L n c r l ts = 0) (h2 : (L[n.toNat]?).map nmE = some (c, r)) : setL L n c r l ts = restF L n.toNat ts := by unfold setL; rw [if_neg (by rw [h]; simp), if_pos h2]
theorem setL_nw (h : setE L n c r l ts = 0) (h2 : ¬ (L[n.toNat]?).map nmE = some (c, r)) : setL L n c r l ts = L.take n.toNat ++ [EntT.mk c r (.slice none 0 0) l ts] := by unfold setL; rw [if_neg (by rw [h]; simp), if_neg h2]
theorem setR_e0 {L' : List EntT} (h : SetR L n c r l ts L') : L'.map e0 = (setL L n c r l ts).map e0 := by
  rcases h with ⟨h1, rfl⟩ | ⟨h1, ⟨h2, rfl⟩ | ⟨h2, v, rfl⟩⟩
  · rw [setL_no h1]
  · rw [setL_tw h1 h2]
  · rw [setL_nw h1 h2]; simp [e0]
theorem nm_y (hy : L[i]? = some y) (h : y.client = c ∧ y.req = r) : (L[i]?).map nmE = some (c, r) := by
  rw [hy]; simp [nmE, h.1, h.2]
theorem nm_n (hy : L[i]? = some y) (h : ¬ (y.client = c ∧ y.req = r)) : ¬ (L[i]?).map nmE = some (c, r) := by
  rw [hy]; simp [nmE] at h ⊢; exact h
theorem nm_o (h : L.length ≤ i) : ¬ (L[i]?).map nmE = some (c, r) := by rw [List.getElem?_eq_none h]; simp
theorem nmE_y (h : y.client = c ∧ y.req = r) : nmE y = (c, r) := by simp [nmE, h.1, h.2]
theorem nmE_n (h : ¬ (y.client = c ∧ y.req = r)) : ¬ nmE y = (c, r) := by simp [nmE] at h ⊢; exact h
theorem setL_new {A C : List EntT} {v : Value} (h : setE X n c r l ts = 0) (h2 : ¬ (X[n.toNat]?).map nmE = some (c, r)) (hA : A.map e0 = (X.take n.toNat).map e0) (hC : C.map e0 = ([EntT.mk c r v l ts] : List EntT).map e0) : (A ++ C).map e0 = (setL X n c r l ts).map e0 := by
  rw [setL_nw h h2, List.map_append, List.map_append, hA, hC]; simp [e0]
end
theorem EntsK.app {S : Nat → Prop} {n : Nat} {w : World} {A B : List EntT} (h : EntsK S n w A) (k : EntsK S n w B) : EntsK S n w (A ++ B) := fun e he => by
  rw [List.mem_append] at he; rcases he with q | q; exact h e q; exact k e q

set_option maxRecDepth 100000 in
set_option maxHeartbeats 1600000 in
theorem rSet17_any (w0 : World) (S : Nat → Prop) (b : Nat) (u : Value) (X : List EntT) (i : Int) (c : Int) (r : Int) (v : Value) (l : List OpT) (ts : Int) (w : World) (hbw : But S w0 w) (hO : RgP S w0.heap.size w b u X) (hs : SliceOf opE 3 w0 v l) (hvS : l ≠ [] → ∀ k, v.ownBlock = some k → ¬ S k) (hlen : l.length ≤ 20) (hts : 0 ≤ ts ∧ ts < 18446744073709551616) (hen : (∀ o ∈ l, opOk o) ∧ (Lit.int .i64 c).wf = true ∧ (Lit.int .i64 r).wf = true) :
    Calls Try.prog 36 #[pt b 0, .int .i64 i, .agg #[.int .i64 c, .int .i64 r, v, .int .u64 ts]] w fun e w' => ∃ (u' : Value) (X' : List EntT), e = .returned (.int .i64 (setE X i c r l ts)) ∧ RgP S w0.heap.size w' b u' X' ∧ X'.map e0 = (setL X i c r l ts).map e0 ∧ But (S) w0 w' := by
 have hB0 := hbw
 have hz0 := hbw.size
 have hz0 := hbw.size
 have hl1 := hO.blk.lt; have hln2 := hO.len
 have hln0 := sl_len hs
 rcases Int.lt_or_le i 0 with hneg | hpos
 · skip
   refine co_enter (n := 145) Try.func36 rfl rfl rfl [(0, pt b 0), (1, .int .i64 i), (2, .agg #[.int .i64 c, .int .i64 r, v, .int .u64 ts])] rfl (fun a h0 => ?_)
   refine co_seq ?_
   refine co_reg ?_
   refine pw h0 rfl (op_new (v := fun N => pt N 0) (T := 37) (cs := #[.int .i64 c, .int .i64 r, v, .int .u64 ts]) (by kernel_rfl) (by kernel_rfl) (by kernel_rfl)) ?_; clear h0
   rintro _ w4 a3 ⟨N5, rfl, hN8, hz9, hk7, hg6⟩ h3
   have ha10 := row_fresh hO.row hN8
   have hu11 := row_under hO.row hN8
   have hz12 := hg6.size
   try dsimp only at h3
   refine pk0 (v := .int .i64 0) h3 rfl fun a13 h13 => ?_; clear h3
   refine pl_nil ?_
   refine co_then ?_
   refine co_seq ?_
   refine co_seq ?_
   refine co_reg ?_
   refine pk0 (v := .int .i64 i) h13 rfl fun a14 h14 => ?_; clear h13
   refine pk0 (v := .bool (decide (i < 0))) h14 rfl fun a15 h15 => ?_; clear h14
   refine pk0 (v := .bool (decide (i < 0))) h15 rfl fun a16 h16 => ?_; clear h15
   have hc17 : (decide (i < 0)) = true := decide_eq_true (by omega)
   rw [hc17] at h16; clear hc17
   refine psk h16 rfl fun a18 h18 => ?_; clear h16
   refine psk h18 rfl fun a19 h19 => ?_; clear h18
   refine psk h19 rfl fun a20 h20 => ?_; clear h19
   refine psk h20 rfl fun a21 h21 => ?_; clear h20
   refine psk h21 rfl fun a22 h22 => ?_; clear h21
   refine psk h22 rfl fun a23 h23 => ?_; clear h22
   refine psk h23 rfl fun a24 h24 => ?_; clear h23
   refine pk0 (v := .bool true) h24 rfl fun a25 h25 => ?_; clear h24
   refine pl_nil ?_
   refine co_then ?_
   refine co_true h25 rfl ?_
   refine co_seq ?_
   refine co_reg ?_
   refine pk0 (v := .int .i64 1) h25 rfl fun a26 h26 => ?_; clear h25
   refine pl_nil ?_
   refine co_then ?_
   refine wp_ret ?_
   refine co_thenR ?_
   refine co_ret1 h26 rfl rfl ?_
   have hr27 := row_kept_new hO.row hg6
   have hE28 := hO.ents.new hg6
   have hk29 := hO.blk.kept hg6 (by simp)
   have hB30 := fbU_new hB0 hg6
   have hE : setE X i c r l ts = 1 := setE_a (by omega)
   exact ⟨_, _, ret_int hE.symm, ⟨hk29, hr27, hE28, hO.sb, hO.su, hO.len⟩, by rw [setL_no (by rw [hE]; omega)], hB30⟩
 · obtain ⟨j, rfl⟩ : ∃ j : Nat, i = (j : Int) := ⟨i.toNat, by omega⟩
   refine co_enter (n := 145) Try.func36 rfl rfl rfl [(0, pt b 0), (1, .int .i64 ((j : Nat) : Int)), (2, .agg #[.int .i64 c, .int .i64 r, v, .int .u64 ts])] rfl (fun a h0 => ?_)
   refine co_seq ?_
   refine co_reg ?_
   refine pw h0 rfl (op_new (v := fun N => pt N 0) (T := 37) (cs := #[.int .i64 c, .int .i64 r, v, .int .u64 ts]) (by kernel_rfl) (by kernel_rfl) (by kernel_rfl)) ?_; clear h0
   rintro _ w32 a31 ⟨N33, rfl, hN36, hz37, hk35, hg34⟩ h31
   have ha38 := row_fresh hO.row hN36
   have hu39 := row_under hO.row hN36
   have hz40 := hg34.size
   try dsimp only at h31
   refine pk0 (v := .int .i64 0) h31 rfl fun a41 h41 => ?_; clear h31
   refine pl_nil ?_
   refine co_then ?_
   refine co_seq ?_
   refine co_seq ?_
   refine co_reg ?_
   refine pk0 (v := .int .i64 ((j : Nat) : Int)) h41 rfl fun a42 h42 => ?_; clear h41
   refine pk0 (v := .bool (decide (((j : Nat) : Int) < 0))) h42 rfl fun a43 h43 => ?_; clear h42
   refine pk0 (v := .bool (decide (((j : Nat) : Int) < 0))) h43 rfl fun a44 h44 => ?_; clear h43
   have hc45 : (decide (((j : Nat) : Int) < 0)) = false := decide_eq_false (by omega)
   rw [hc45] at h44; clear hc45
   refine pk0 (v := .int .i64 ((j : Nat) : Int)) h44 rfl fun a46 h46 => ?_; clear h44
   refine pk0 (v := pt b 0) h46 rfl fun a47 h47 => ?_; clear h46
   refine pk0 (v := pt b 0) h47 rfl fun a48 h48 => ?_; clear h47
   refine pk0 (v := pt b 0) h48 rfl fun a49 h49 => ?_; clear h48
   have hk50 := hO.blk.kept hg34 (by simp)
   refine pk (v := u) h49 rfl (rn_load1 rfl rfl Try.isAgg29 (hk50.cell rfl)) fun a51 h51 => ?_; clear h49
   have hr52 := row_kept_new hO.row hg34
   refine pk (v := .int .i64 ((X.length : Nat) : Int)) h51 rfl (rn_lenOwn rfl rfl Try.underlying29 hr52) fun a53 h53 => ?_; clear h51
   refine pk0 (v := .bool (decide (((j : Nat) : Int) > ((X.length : Nat) : Int)))) h53 rfl fun a54 h54 => ?_; clear h53
   refine pk0 (v := .bool (decide (((j : Nat) : Int) > ((X.length : Nat) : Int)))) h54 rfl fun a55 h55 => ?_; clear h54
   refine pl_nil ?_
   refine co_then ?_
   have hB57 := fbU_new hB0 hg34
   cases hc56 : (decide (((j : Nat) : Int) > ((X.length : Nat) : Int)))
   ·
    rw [hc56] at h55
    have hp58 : ¬ (((j : Nat) : Int) > ((X.length : Nat) : Int)) := of_decide_eq_false hc56
    clear hc56
    refine co_false h55 rfl ?_
    refine wp_skip ?_
    refine co_then ?_
    refine co_seq ?_
    refine co_seq ?_
    refine co_reg ?_
    refine pk (v := .agg #[.int .i64 c, .int .i64 r, v, .int .u64 ts]) h55 rfl (rn_loadN rfl rfl Try.underlying37 rfl (by kernel_rfl) hk35.all) fun a59 h59 => ?_; clear h55
    refine pw h59 rfl (op_call (args := #[.agg #[.int .i64 c, .int .i64 r, v, .int .u64 ts]]) (R := fun res xw => res = .int .i64 (chkB c r l) ∧ Below w32.heap.size w32 xw) rfl rfl rfl (by kernel_rfl) (by kernel_rfl) (Try.call62 _ _) (ritemCheck_any c r v l ts w32 (sl_butN hs hB57 hvS)) (by rintro e x ⟨rfl, hb62⟩; exact ⟨_, rfl, ⟨rfl, hb62⟩⟩)) ?_; clear h59
    rintro _ w61 a60 ⟨rfl, hb62⟩ h60
    have hz63 := hb62.size
    refine pk0 (v := .int .i64 (chkB c r l)) h60 rfl fun a64 h64 => ?_; clear h60
    refine pl_nil ?_
    refine co_then ?_
    refine co_seq ?_
    refine co_reg ?_
    refine pk0 (v := .int .i64 (chkB c r l)) h64 rfl fun a65 h65 => ?_; clear h64
    refine pk0 (v := .bool (chkB c r l != 0)) h65 rfl fun a66 h66 => ?_; clear h65
    refine pl_nil ?_
    refine co_then ?_
    have hB68 := fbU_call hB57 hb62
    have hE69 := hO.ents.new hg34
    have hE70 := hE69.new (below_grown hb62)
    cases hc67 : (chkB c r l != 0)
    ·
     rw [hc67] at h66
     have hp71 : ¬ (chkB c r l ≠ 0) := by first | simpa using hc67 | simpa [and_assoc] using hc67
     clear hc67
     refine co_false h66 rfl ?_
     refine wp_skip ?_
     refine co_then ?_
     refine co_seq ?_
     refine co_seq ?_
     refine co_reg ?_
     refine pk0 (v := .int .i64 ((j : Nat) : Int)) h66 rfl fun a72 h72 => ?_; clear h66
     refine pk0 (v := .bool (decide (((j : Nat) : Int) ≥ 100))) h72 rfl fun a73 h73 => ?_; clear h72
     refine pl_nil ?_
     refine co_then ?_
     cases hc74 : (decide (((j : Nat) : Int) ≥ 100))
     ·
      rw [hc74] at h73
      have hp75 : ¬ (((j : Nat) : Int) ≥ 100) := of_decide_eq_false hc74
      clear hc74
      refine co_false h73 rfl ?_
      refine wp_skip ?_
      refine co_then ?_
      refine co_seq ?_
      refine co_seq ?_
      refine co_reg ?_
      refine pk0 (v := .int .i64 0) h73 rfl fun a76 h76 => ?_; clear h73
      refine pl_nil ?_
      refine co_then ?_
      refine wp_block ?_
      have h77 : Slots 145 [(0, pt b 0), (1, .int .i64 ((j : Nat) : Int)), (5, pt N33 0), (8, .int .i64 0)] _ := h76.sub ⟨rfl, rfl, rfl, rfl, trivial⟩; clear h76
      refine co_loop (fun mm a x => ∃ (k : Nat), Slots 145 [(0, pt b 0), (1, .int .i64 ((j : Nat) : Int)), (5, pt N33 0), (8, .int .i64 ((k : Nat) : Int))] a ∧ mm = j - k ∧ (k ≤ j) ∧ (findN (X.take k) (c, r) = none) ∧ x.ownsRow 0 37 4 u X.length (X.flatMap entE) ∧ EntsK S w0.heap.size x X ∧ But (S) w0 x ∧ Blk x b 31 #[u] ∧ Blk x N33 37 #[.int .i64 c, .int .i64 r, v, .int .u64 ts]) (j - 0) ?_ ?_
      have hr78 := row_kept_new hr52 (below_grown hb62)
      have hk79 := hk50.below hb62
      have hk80 := hk35.below hb62
      · exact ⟨0, h77.sub ⟨rfl, rfl, rfl, (slot_eq rfl (congrArg (Value.int .i64) (by first | rfl | omega))), trivial⟩, rfl, by omega, by first | exact findN_nil _ | exact hfn', hr78, hE70, hB68, hk79, hk80⟩
      · rintro k81 a82 w83 ⟨k, h82, rfl, hi84, hi85, hf86, hf87, hB88, hk89, hk90⟩
        have hz91 := hB88.size
        have hl92 := hk89.lt
        have hl93 := hk90.lt
        refine co_seq ?_
        refine co_seq ?_
        refine co_reg ?_
        refine pk0 (v := .int .i64 ((k : Nat) : Int)) h82 rfl fun a94 h94 => ?_; clear h82
        refine pk0 (v := .int .i64 ((j : Nat) : Int)) h94 rfl fun a95 h95 => ?_; clear h94
        refine pk0 (v := .bool (decide (((k : Nat) : Int) < ((j : Nat) : Int)))) h95 rfl fun a96 h96 => ?_; clear h95
        refine pl_nil ?_
        refine co_then ?_
        cases hc97 : (decide (((k : Nat) : Int) < ((j : Nat) : Int)))
        ·
         rw [hc97] at h96
         have hp98 : ¬ (((k : Nat) : Int) < ((j : Nat) : Int)) := of_decide_eq_false hc97
         clear hc97
         refine co_false h96 rfl ?_
         refine wp_exit ?_
         refine co_thenX ?_
         refine co_thenX ?_
         refine co_blockX ?_
         refine co_then ?_
         refine co_seq ?_
         refine co_cut (fun a x => ∃ (bd : Bool), Slots 145 [(0, pt b 0), (1, .int .i64 ((j : Nat) : Int)), (5, pt N33 0), (75, .bool bd)] a ∧ (badT (X.take ((j : Int)).toNat) (EntT.mk c r (.slice none 0 0) l ts) = bd) ∧ x.ownsRow 0 37 4 u X.length (X.flatMap entE) ∧ EntsK S w0.heap.size x X ∧ Blk x b 31 #[u] ∧ Blk x N33 37 #[.int .i64 c, .int .i64 r, v, .int .u64 ts] ∧ But (S) w0 x) ?_ ?_
         ·
          refine dr_eq (by kernel_rfl) (fun w99 hg100 => ?_)
          have hz101 := hg100.size
          refine dk0 0 (v := pt N33 3) h96 rfl rfl rfl fun a102 h102 => ?_; clear h96
          have hk103 := hk90.kept hg100 (by simp)
          refine dk 1 (v := .int .u64 ts) h102 rfl rfl rfl (fun x hx => by subst hx; exact (rn_load1 rfl rfl Try.isAgg23 (hk103.cell rfl))) fun a104 h104 => ?_; clear h102
          refine dk0 2 (v := .bool (ts != 0)) h104 rfl rfl rfl fun a105 h105 => ?_; clear h104
          refine dk0 3 (v := .bool (ts != 0)) h105 rfl rfl rfl fun a106 h106 => ?_; clear h105
          have hB108 := fbU_new hB88 hg100
          cases hc107 : (ts != 0)
          ·
           rw [hc107] at h106
           have hp109 : ¬ (ts ≠ 0) := by first | simpa using hc107 | simpa [and_assoc] using hc107
           clear hc107
           refine dsk 4 h106 rfl rfl rfl fun a110 h110 => ?_; clear h106
           refine dsk 5 h110 rfl rfl rfl fun a111 h111 => ?_; clear h110
           refine dk0 6 (v := .bool false) h111 rfl rfl rfl fun a112 h112 => ?_; clear h111
           refine dk0 7 (v := .bool false) h112 rfl rfl rfl fun a113 h113 => ?_; clear h112
           refine dsk 8 h113 rfl rfl rfl fun a114 h114 => ?_; clear h113
           refine dsk 9 h114 rfl rfl rfl fun a115 h115 => ?_; clear h114
           refine dsk 10 h115 rfl rfl rfl fun a116 h116 => ?_; clear h115
           refine dsk 11 h116 rfl rfl rfl fun a117 h117 => ?_; clear h116
           refine dsk 12 h117 rfl rfl rfl fun a118 h118 => ?_; clear h117
           refine dsk 13 h118 rfl rfl rfl fun a119 h119 => ?_; clear h118
           refine dsk 14 h119 rfl rfl rfl fun a120 h120 => ?_; clear h119
           refine dsk 15 h120 rfl rfl rfl fun a121 h121 => ?_; clear h120
           refine dsk 16 h121 rfl rfl rfl fun a122 h122 => ?_; clear h121
           refine dsk 17 h122 rfl rfl rfl fun a123 h123 => ?_; clear h122
           refine dsk 18 h123 rfl rfl rfl fun a124 h124 => ?_; clear h123
           refine dsk 19 h124 rfl rfl rfl fun a125 h125 => ?_; clear h124
           refine dsk 20 h125 rfl rfl rfl fun a126 h126 => ?_; clear h125
           refine dsk 21 h126 rfl rfl rfl fun a127 h127 => ?_; clear h126
           refine dsk 22 h127 rfl rfl rfl fun a128 h128 => ?_; clear h127
           refine dsk 23 h128 rfl rfl rfl fun a129 h129 => ?_; clear h128
           refine dsk 24 h129 rfl rfl rfl fun a130 h130 => ?_; clear h129
           refine dsk 25 h130 rfl rfl rfl fun a131 h131 => ?_; clear h130
           refine dsk 26 h131 rfl rfl rfl fun a132 h132 => ?_; clear h131
           refine dsk 27 h132 rfl rfl rfl fun a133 h133 => ?_; clear h132
           refine dsk 28 h133 rfl rfl rfl fun a134 h134 => ?_; clear h133
           refine dsk 29 h134 rfl rfl rfl fun a135 h135 => ?_; clear h134
           refine dsk 30 h135 rfl rfl rfl fun a136 h136 => ?_; clear h135
           refine dsk 31 h136 rfl rfl rfl fun a137 h137 => ?_; clear h136
           refine dk0 32 (v := .bool false) h137 rfl rfl rfl fun a138 h138 => ?_; clear h137
           refine dr_done (by kernel_rfl) ?_
           refine co_then ?_
           have hr139 := row_kept_new hf86 hg100
           have hE140 := hf87.new hg100
           have hk141 := hk89.kept hg100 (by simp)
           exact ⟨false, h138.sub ⟨rfl, rfl, rfl, rfl, trivial⟩, by first | exact bad_ts (by simp only []; omega) | exact badM_0 (by omega), hr139, hE140, hk141, hk103, hB108⟩
          ·
           rw [hc107] at h106
           have hp142 : ts ≠ 0 := by first | simpa using hc107 | simpa [and_assoc] using hc107
           clear hc107
           refine dk0 4 (v := .int .i64 ((j : Nat) : Int)) h106 rfl rfl rfl fun a143 h143 => ?_; clear h106
           refine dk0 5 (v := .bool (decide (((j : Nat) : Int) > 0))) h143 rfl rfl rfl fun a144 h144 => ?_; clear h143
           refine dk0 6 (v := .bool (decide (((j : Nat) : Int) > 0))) h144 rfl rfl rfl fun a145 h145 => ?_; clear h144
           refine dk0 7 (v := .bool (decide (((j : Nat) : Int) > 0))) h145 rfl rfl rfl fun a146 h146 => ?_; clear h145
           cases hc147 : (decide (((j : Nat) : Int) > 0))
           ·
            rw [hc147] at h146
            have hp148 : ¬ (((j : Nat) : Int) > 0) := of_decide_eq_false hc147
            clear hc147
            refine dsk 8 h146 rfl rfl rfl fun a149 h149 => ?_; clear h146
            refine dsk 9 h149 rfl rfl rfl fun a150 h150 => ?_; clear h149
            refine dsk 10 h150 rfl rfl rfl fun a151 h151 => ?_; clear h150
            refine dsk 11 h151 rfl rfl rfl fun a152 h152 => ?_; clear h151
            refine dsk 12 h152 rfl rfl rfl fun a153 h153 => ?_; clear h152
            refine dsk 13 h153 rfl rfl rfl fun a154 h154 => ?_; clear h153
            refine dsk 14 h154 rfl rfl rfl fun a155 h155 => ?_; clear h154
            refine dsk 15 h155 rfl rfl rfl fun a156 h156 => ?_; clear h155
            refine dsk 16 h156 rfl rfl rfl fun a157 h157 => ?_; clear h156
            refine dsk 17 h157 rfl rfl rfl fun a158 h158 => ?_; clear h157
            refine dsk 18 h158 rfl rfl rfl fun a159 h159 => ?_; clear h158
            refine dsk 19 h159 rfl rfl rfl fun a160 h160 => ?_; clear h159
            refine dsk 20 h160 rfl rfl rfl fun a161 h161 => ?_; clear h160
            refine dsk 21 h161 rfl rfl rfl fun a162 h162 => ?_; clear h161
            refine dsk 22 h162 rfl rfl rfl fun a163 h163 => ?_; clear h162
            refine dsk 23 h163 rfl rfl rfl fun a164 h164 => ?_; clear h163
            refine dsk 24 h164 rfl rfl rfl fun a165 h165 => ?_; clear h164
            refine dsk 25 h165 rfl rfl rfl fun a166 h166 => ?_; clear h165
            refine dsk 26 h166 rfl rfl rfl fun a167 h167 => ?_; clear h166
            refine dsk 27 h167 rfl rfl rfl fun a168 h168 => ?_; clear h167
            refine dsk 28 h168 rfl rfl rfl fun a169 h169 => ?_; clear h168
            refine dsk 29 h169 rfl rfl rfl fun a170 h170 => ?_; clear h169
            refine dsk 30 h170 rfl rfl rfl fun a171 h171 => ?_; clear h170
            refine dsk 31 h171 rfl rfl rfl fun a172 h172 => ?_; clear h171
            refine dk0 32 (v := .bool false) h172 rfl rfl rfl fun a173 h173 => ?_; clear h172
            refine dr_done (by kernel_rfl) ?_
            refine co_then ?_
            have hr174 := row_kept_new hf86 hg100
            have hE175 := hf87.new hg100
            have hk176 := hk89.kept hg100 (by simp)
            exact ⟨false, h173.sub ⟨rfl, rfl, rfl, rfl, trivial⟩, by first | exact bad_ts (by simp only []; omega) | exact badM_0 (by omega), hr174, hE175, hk176, hk103, hB108⟩
           ·
            rw [hc147] at h146
            have hp177 : ((j : Nat) : Int) > 0 := of_decide_eq_true hc147
            clear hc147
            refine dk0 8 (v := pt b 0) h146 rfl rfl rfl fun a178 h178 => ?_; clear h146
            refine dk0 9 (v := pt b 0) h178 rfl rfl rfl fun a179 h179 => ?_; clear h178
            refine dk0 10 (v := pt b 0) h179 rfl rfl rfl fun a180 h180 => ?_; clear h179
            have hk181 := hk89.kept hg100 (by simp)
            refine dk 11 (v := u) h180 rfl rfl rfl (fun x hx => by subst hx; exact (rn_load1 rfl rfl Try.isAgg29 (hk181.cell rfl))) fun a182 h182 => ?_; clear h180
            refine dk0 12 (v := .int .i64 ((j : Nat) : Int)) h182 rfl rfl rfl fun a183 h183 => ?_; clear h182
            refine dk 13 (v := .int .i64 (((j : Nat) : Int) - 1)) h183 rfl rfl rfl (fun x hx => by subst hx; exact (rn_arith rfl rfl rfl rfl rfl rfl (IntWalk.i64_in _ (by omega)))) fun a184 h184 => ?_; clear h183
            have hE187 := hf87.new hg100
            have hr193 := row_kept_new hf86 hg100
            obtain ⟨y185, hy185⟩ : ∃ z, X[(((j : Nat) : Int) - 1).toNat]? = some z := ⟨_, List.getElem?_eq_getElem (by first | omega | (simp; done) | (simp; omega))⟩
            have oky185 := (fun (z : EntT) (_ : z ∈ X) => trivial) _ (List.mem_of_getElem? hy185)
            have hy186 := hE187.at hy185
            have hq188 := hy186.ts0; have hq189 := hy186.ts1; have hq190 := hy186.len; have hq191 := wf_i64 hy186.cl; have hq192 := wf_i64 hy186.rq
            refine dk 14 (v := pt (blkOf u) (offOf u + ((((j : Nat) : Int) - 1).toNat) * 4)) h184 rfl rfl rfl (fun x hx => by subst hx; exact (rn_index rfl rfl rfl Try.underlying29 Try.sizeOf37 (row_sl hr193 entE_len) (by omega) (by first | omega | (simp; done) | (simp; omega)))) fun a194 h194 => ?_; clear h184
            refine dk0 15 (v := pt (blkOf u) (offOf u + ((((j : Nat) : Int) - 1).toNat) * 4 + 3)) h194 rfl rfl rfl fun a195 h195 => ?_; clear h194
            refine dk 16 (v := .int .u64 y185.ts) h195 rfl rfl rfl (fun x hx => by subst hx; exact (rn_load1 rfl rfl Try.isAgg23 ((sl_at (row_sl hr193 entE_len) hy185) 3 _ rfl))) fun a196 h196 => ?_; clear h195
            refine dk0 17 (v := .bool (y185.ts == 0)) h196 rfl rfl rfl fun a197 h197 => ?_; clear h196
            refine dk0 18 (v := .bool (y185.ts == 0)) h197 rfl rfl rfl fun a198 h198 => ?_; clear h197
            cases hc199 : (y185.ts == 0)
            ·
             rw [hc199] at h198
             have hp200 : ¬ (y185.ts = 0) := by first | simpa using hc199 | simpa [and_assoc] using hc199
             clear hc199
             refine dk0 19 (v := pt b 0) h198 rfl rfl rfl fun a201 h201 => ?_; clear h198
             refine dk0 20 (v := pt b 0) h201 rfl rfl rfl fun a202 h202 => ?_; clear h201
             refine dk0 21 (v := pt b 0) h202 rfl rfl rfl fun a203 h203 => ?_; clear h202
             refine dk 22 (v := u) h203 rfl rfl rfl (fun x hx => by subst hx; exact (rn_load1 rfl rfl Try.isAgg29 (hk181.cell rfl))) fun a204 h204 => ?_; clear h203
             refine dk0 23 (v := .int .i64 ((j : Nat) : Int)) h204 rfl rfl rfl fun a205 h205 => ?_; clear h204
             refine dk 24 (v := .int .i64 (((j : Nat) : Int) - 1)) h205 rfl rfl rfl (fun x hx => by subst hx; exact (rn_arith rfl rfl rfl rfl rfl rfl (IntWalk.i64_in _ (by omega)))) fun a206 h206 => ?_; clear h205
             refine dk 25 (v := pt (blkOf u) (offOf u + ((((j : Nat) : Int) - 1).toNat) * 4)) h206 rfl rfl rfl (fun x hx => by subst hx; exact (rn_index rfl rfl rfl Try.underlying29 Try.sizeOf37 (row_sl hr193 entE_len) (by omega) (by first | omega | (simp; done) | (simp; omega)))) fun a207 h207 => ?_; clear h206
             refine dk0 26 (v := pt (blkOf u) (offOf u + ((((j : Nat) : Int) - 1).toNat) * 4 + 3)) h207 rfl rfl rfl fun a208 h208 => ?_; clear h207
             refine dk 27 (v := .int .u64 y185.ts) h208 rfl rfl rfl (fun x hx => by subst hx; exact (rn_load1 rfl rfl Try.isAgg23 ((sl_at (row_sl hr193 entE_len) hy185) 3 _ rfl))) fun a209 h209 => ?_; clear h208
             refine dk0 28 (v := pt N33 3) h209 rfl rfl rfl fun a210 h210 => ?_; clear h209
             refine dk 29 (v := .int .u64 ts) h210 rfl rfl rfl (fun x hx => by subst hx; exact (rn_load1 rfl rfl Try.isAgg23 (hk103.cell rfl))) fun a211 h211 => ?_; clear h210
             refine dk0 30 (v := .bool (decide (y185.ts ≥ ts))) h211 rfl rfl rfl fun a212 h212 => ?_; clear h211
             refine dk0 31 (v := .bool (decide (y185.ts ≥ ts))) h212 rfl rfl rfl fun a213 h213 => ?_; clear h212
             refine dk0 32 (v := .bool (decide (y185.ts ≥ ts))) h213 rfl rfl rfl fun a214 h214 => ?_; clear h213
             refine dr_done (by kernel_rfl) ?_
             refine co_then ?_
             exact ⟨(decide (y185.ts ≥ ts)), h214.sub ⟨rfl, rfl, rfl, rfl, trivial⟩, by rw [bad_at (j := (((j : Nat) : Int) - 1).toNat) (by omega) (by omega) hy185]; first | exact decide_eq_false (by simp only []; omega) | exact decide_eq_true (by simp only []; omega) | exact decide_eq_decide.2 (by constructor <;> intro hq <;> simp only [] at hq ⊢ <;> omega), hr193, hE187, hk181, hk103, hB108⟩
            ·
             rw [hc199] at h198
             have hp215 : y185.ts = 0 := by first | simpa using hc199 | simpa [and_assoc] using hc199
             clear hc199
             refine dsk 19 h198 rfl rfl rfl fun a216 h216 => ?_; clear h198
             refine dsk 20 h216 rfl rfl rfl fun a217 h217 => ?_; clear h216
             refine dsk 21 h217 rfl rfl rfl fun a218 h218 => ?_; clear h217
             refine dsk 22 h218 rfl rfl rfl fun a219 h219 => ?_; clear h218
             refine dsk 23 h219 rfl rfl rfl fun a220 h220 => ?_; clear h219
             refine dsk 24 h220 rfl rfl rfl fun a221 h221 => ?_; clear h220
             refine dsk 25 h221 rfl rfl rfl fun a222 h222 => ?_; clear h221
             refine dsk 26 h222 rfl rfl rfl fun a223 h223 => ?_; clear h222
             refine dsk 27 h223 rfl rfl rfl fun a224 h224 => ?_; clear h223
             refine dsk 28 h224 rfl rfl rfl fun a225 h225 => ?_; clear h224
             refine dsk 29 h225 rfl rfl rfl fun a226 h226 => ?_; clear h225
             refine dsk 30 h226 rfl rfl rfl fun a227 h227 => ?_; clear h226
             refine dk0 31 (v := .bool true) h227 rfl rfl rfl fun a228 h228 => ?_; clear h227
             refine dk0 32 (v := .bool true) h228 rfl rfl rfl fun a229 h229 => ?_; clear h228
             refine dr_done (by kernel_rfl) ?_
             refine co_then ?_
             exact ⟨true, h229.sub ⟨rfl, rfl, rfl, rfl, trivial⟩, by rw [bad_at (j := (((j : Nat) : Int) - 1).toNat) (by omega) (by omega) hy185]; first | exact decide_eq_false (by simp only []; omega) | exact decide_eq_true (by simp only []; omega) | exact decide_eq_decide.2 (by constructor <;> intro hq <;> simp only [] at hq ⊢ <;> omega), hr193, hE187, hk181, hk103, hB108⟩
         rintro a230 w231 ⟨bd, h230, hi232, hf233, hf234, hf235, hf236, hB237⟩
         have hz238 := hB237.size
         have hl239 := hf235.lt
         have hl240 := hf236.lt
         cases hc241 : (bd)
         ·
          rw [hc241] at h230
          refine co_false h230 rfl ?_
          refine wp_skip ?_
          refine co_then ?_
          refine co_seq ?_
          refine co_seq ?_
          refine dr_gen (fun x => But (S) w0 x ∧ x.ownsRow 0 37 4 u X.length (X.flatMap entE) ∧ Blk x b 31 #[u] ∧ Blk x N33 37 #[.int .i64 c, .int .i64 r, v, .int .u64 ts]) (by kernel_rfl) (fun w242 hg243 => ?_) (fun w242 hg243 => ?_)
          ·
           have hz244 := hg243.size
           have hB245 := fbU_new hB237 hg243
           have hr246 := row_kept_new hf233 hg243
           have hk247 := hf235.kept hg243 (by simp)
           have hk248 := hf236.kept hg243 (by simp)
           exact ⟨hB245, hr246, hk247, hk248⟩
          have hz249 := hg243.size
          have hB250 := fbU_new hB237 hg243
          have hr251 := row_kept_new hf233 hg243
          have hk252 := hf235.kept hg243 (by simp)
          have hk253 := hf236.kept hg243 (by simp)
          refine dk0 0 (v := .int .i64 ((j : Nat) : Int)) h230 rfl rfl ⟨hB250, hr251, hk252, hk253⟩ fun a254 h254 => ?_; clear h230
          refine dk0 1 (v := pt b 0) h254 rfl rfl ⟨hB250, hr251, hk252, hk253⟩ fun a255 h255 => ?_; clear h254
          refine dk0 2 (v := pt b 0) h255 rfl rfl ⟨hB250, hr251, hk252, hk253⟩ fun a256 h256 => ?_; clear h255
          refine dk0 3 (v := pt b 0) h256 rfl rfl ⟨hB250, hr251, hk252, hk253⟩ fun a257 h257 => ?_; clear h256
          refine dk 4 (v := u) h257 rfl rfl ⟨hB250, hr251, hk252, hk253⟩ (fun x hx => (rn_load1 rfl rfl Try.isAgg29 (hx.2.2.1.cell rfl))) fun a258 h258 => ?_; clear h257
          refine dk 5 (v := .int .i64 ((X.length : Nat) : Int)) h258 rfl rfl ⟨hB250, hr251, hk252, hk253⟩ (fun x hx => (rn_lenOwn rfl rfl Try.underlying29 hx.2.1)) fun a259 h259 => ?_; clear h258
          refine dk0 6 (v := .bool (decide (((j : Nat) : Int) < ((X.length : Nat) : Int)))) h259 rfl rfl ⟨hB250, hr251, hk252, hk253⟩ fun a260 h260 => ?_; clear h259
          refine dk0 7 (v := .bool (decide (((j : Nat) : Int) < ((X.length : Nat) : Int)))) h260 rfl rfl ⟨hB250, hr251, hk252, hk253⟩ fun a261 h261 => ?_; clear h260
          cases hc262 : (decide (((j : Nat) : Int) < ((X.length : Nat) : Int)))
          ·
           rw [hc262] at h261
           have hp263 : ¬ (((j : Nat) : Int) < ((X.length : Nat) : Int)) := of_decide_eq_false hc262
           clear hc262
           refine dsk 8 h261 rfl rfl ⟨hB250, hr251, hk252, hk253⟩ fun a264 h264 => ?_; clear h261
           refine dsk 9 h264 rfl rfl ⟨hB250, hr251, hk252, hk253⟩ fun a265 h265 => ?_; clear h264
           refine dsk 10 h265 rfl rfl ⟨hB250, hr251, hk252, hk253⟩ fun a266 h266 => ?_; clear h265
           refine dsk 11 h266 rfl rfl ⟨hB250, hr251, hk252, hk253⟩ fun a267 h267 => ?_; clear h266
           refine dsk 12 h267 rfl rfl ⟨hB250, hr251, hk252, hk253⟩ fun a268 h268 => ?_; clear h267
           refine dsk 13 h268 rfl rfl ⟨hB250, hr251, hk252, hk253⟩ fun a269 h269 => ?_; clear h268
           refine dsk 14 h269 rfl rfl ⟨hB250, hr251, hk252, hk253⟩ fun a270 h270 => ?_; clear h269
           refine dsk 15 h270 rfl rfl ⟨hB250, hr251, hk252, hk253⟩ fun a271 h271 => ?_; clear h270
           refine dsk 16 h271 rfl rfl ⟨hB250, hr251, hk252, hk253⟩ fun a272 h272 => ?_; clear h271
           refine dk0 17 (v := .bool false) h272 rfl rfl ⟨hB250, hr251, hk252, hk253⟩ fun a273 h273 => ?_; clear h272
           refine dr_done (by kernel_rfl) ?_
           refine co_then ?_
           refine co_false h273 rfl ?_
           refine wp_skip ?_
           refine co_then ?_
           refine co_seq ?_
           refine dr_gen (fun x => But (S) w0 x ∧ x.ownsRow 0 37 4 u X.length (X.flatMap entE) ∧ Blk x N33 37 #[.int .i64 c, .int .i64 r, v, .int .u64 ts]) (by kernel_rfl) (fun w274 hg275 => ?_) (fun w274 hg275 => ?_)
           ·
            have hz276 := hg275.size
            have hB277 := fbU_new hB250 hg275
            have hr278 := row_kept_new hr251 hg275
            have hk279 := hk253.kept hg275 (by simp)
            exact ⟨hB277, hr278, hk279⟩
           have hz280 := hg275.size
           have hB281 := fbU_new hB250 hg275
           have hr282 := row_kept_new hr251 hg275
           have hk283 := hk253.kept hg275 (by simp)
           refine dk0 0 (v := pt b 0) h273 rfl rfl ⟨hB281, hr282, hk283⟩ fun a284 h284 => ?_; clear h273
           refine dk0 1 (v := pt b 0) h284 rfl rfl ⟨hB281, hr282, hk283⟩ fun a285 h285 => ?_; clear h284
           refine dk0 2 (v := pt b 0) h285 rfl rfl ⟨hB281, hr282, hk283⟩ fun a286 h286 => ?_; clear h285
           refine dk0 3 (v := pt b 0) h286 rfl rfl ⟨hB281, hr282, hk283⟩ fun a287 h287 => ?_; clear h286
           refine dk0 5 (v := .int .i64 ((j : Nat) : Int)) h287 rfl rfl ⟨hB281, hr282, hk283⟩ fun a288 h288 => ?_; clear h287
           refine dk 8 (v := .agg #[.int .i64 c, .int .i64 r, v, .int .u64 ts]) h288 rfl rfl ⟨hB281, hr282, hk283⟩ (fun x hx => (rn_loadN rfl rfl Try.underlying37 rfl (by kernel_rfl) hx.2.2.all)) fun a289 h289 => ?_; clear h288
           refine dr_many [4, 9] (by kernel_rfl) (by simp) ⟨?_, ?_, trivial⟩
           ·
            have hk290 := hk252.kept hg275 (by simp)
            refine dr_opVal (i := 4) (v := u) h289 rfl rfl rfl rfl (by kernel_rfl) rfl (rn_load1 rfl rfl Try.isAgg29 (hk290.cell rfl)) ⟨hB281, hr282, hk283⟩ (fun a291 h291 => ?_); clear h289
            refine dk 6 (v := subV u 0 j 4) h291 rfl rfl ⟨hB281, hr282, hk283⟩ (fun x hx => (rn_sliceTo rfl rfl rfl Try.underlying29 Try.sizeOf37 (row_sl hx.2.1 entE_len) (by omega) (by omega))) fun a292 h292 => ?_; clear h291
            refine dr_many [7, 9] (by kernel_rfl) (by simp) ⟨?_, ?_, trivial⟩
            ·
             have hbad : badT (X.take ((j : Int) : Int).toNat) (EntT.mk c r (.slice none 0 0) l ts) = false := by first | exact hi232.trans hc241
             have hkj : k = j := by omega
             have hE := setE_f (i := (j : Int)) (v := .slice none 0 0) (by omega) (by omega) (by omega) (by have hq := (by assumption : findN (X.take k) (c, r) = none); rw [hkj] at hq; exact hq) hbad
             have hE295 := hf234.new hg243
             have hE296 := hE295.new hg275
             refine dr_op (i := 7) h292 rfl rfl rfl rfl (op_call (args := #[subV u 0 j 4]) (R := fun res xw => ∃ L2 : List EntT, ∃ u : Value, res = u ∧ xw.ownsRow w274.heap.size 37 4 u L2.length (L2.flatMap entE) ∧ EntsK (fun _ => False) w274.heap.size xw L2 ∧ L2.map e0 = (X.take j).map e0 ∧ Below w274.heap.size w274 xw) rfl rfl rfl (by kernel_rfl) (by kernel_rfl) (Try.call50 _ _) (rcopy17_any (subV u 0 j 4) (X.take j) w274 (sl_take (row_sl hr282 entE_len) _ (by omega)) (entsK_got (EntsK.take hE296 j)) (fun z hz => ((EntsK.take hE296 j) z hz).len) (by rw [List.length_take]; omega)) (by rintro e x ⟨L2, u, rfl, hq299, hq300, hq301, hb302⟩; exact ⟨_, rfl, ⟨L2, u, rfl, hq299, hq300, hq301, hb302⟩⟩)) ?_ ?_; clear h292
             ·
              rintro u298 w294 ⟨L2297, _, rfl, hq299, hq300, hq301, hb302⟩
              have hu303 := row_under hr282 (rfl : w274.heap.size = _)
              have hz304 := hb302.size
              have hl305 := sl_len (row_sl hq299 entE_len)
              have hE306 : EntsK S w0.heap.size w294 L2297 := EntsK.low hq300 (by omega)
              have hl307 := e0_len hq301; rw [List.length_take] at hl307
              have hB308 := fbU_call hB281 hb302
              have hr309 := row_kept_new hr282 (below_grown hb302)
              have hk310 := hk283.below hb302
              exact ⟨hB308, hr309, hk310⟩
             rintro u298 w294 a293 ⟨L2297, _, rfl, hq299, hq300, hq301, hb302⟩ h293
             have hu303 := row_under hr282 (rfl : w274.heap.size = _)
             have hz304 := hb302.size
             have hl305 := sl_len (row_sl hq299 entE_len)
             have hE306 : EntsK S w0.heap.size w294 L2297 := EntsK.low hq300 (by omega)
             have hl307 := e0_len hq301; rw [List.length_take] at hl307
             have hB308 := fbU_call hB281 hb302
             have hr309 := row_kept_new hr282 (below_grown hb302)
             have hk310 := hk283.below hb302
             refine d1 9 h293 rfl rfl (op_new (v := fun N => .slice (some ⟨N, 0, none⟩) 1 1) (T := 37) (cs := #[.int .i64 c, .int .i64 r, v, .int .u64 ts]) (by kernel_rfl) (by kernel_rfl) (by kernel_rfl)) ?_ ?_; clear h293
             ·
              rintro _ w312 ⟨N313, rfl, hN316, hz317, hk315, hg314⟩
              have ha318 := row_fresh hr309 hN316
              have hu319 := row_under hr309 hN316
              have ha320 := row_fresh hq299 hN316
              have hu321 := row_under hq299 hN316
              have hz322 := hg314.size
              have hB323 := fbU_new hB308 hg314
              have hr324 := row_kept_new hr309 hg314
              have hk325 := hk310.kept hg314 (by simp)
              exact ⟨hB323, hr324, hk325⟩
             rintro _ w312 a311 ⟨N313, rfl, hN316, hz317, hk315, hg314⟩ h311
             have ha318 := row_fresh hr309 hN316
             have hu319 := row_under hr309 hN316
             have ha320 := row_fresh hq299 hN316
             have hu321 := row_under hq299 hN316
             have hz322 := hg314.size
             try dsimp only at h311
             have hB323 := fbU_new hB308 hg314
             have hr324 := row_kept_new hr309 hg314
             have hk325 := hk310.kept hg314 (by simp)
             have hr328 := row_of_cells (enc := entE) (sz := 4) ([(EntT.mk c r v l ts)] : List EntT) hk315 (Nat.le_refl _) rfl rfl (by unfold maxLen; simp)
             refine d1 10 h311 rfl rfl (op_call (args := #[.slice (some ⟨N313, 0, none⟩) 1 1]) (R := fun res xw => ∃ L2 : List EntT, ∃ u : Value, res = u ∧ xw.ownsRow w312.heap.size 37 4 u L2.length (L2.flatMap entE) ∧ EntsK (fun _ => False) w312.heap.size xw L2 ∧ L2.map e0 = ([(EntT.mk c r v l ts)] : List EntT).map e0 ∧ Below w312.heap.size w312 xw) rfl rfl rfl (by kernel_rfl) (by kernel_rfl) (Try.call50 _ _) (rcopy17_any (.slice (some ⟨N313, 0, none⟩) 1 1) ([(EntT.mk c r v l ts)] : List EntT) w312 (row_sl hr328 entE_len) (fun z hz => by simp only [List.mem_singleton] at hz; subst hz; exact ⟨sl_butN hs hB323 hvS, hen.1, hts.1, hts.2, hen.2.1, hen.2.2⟩) (fun z hz => by simp only [List.mem_singleton] at hz; subst hz; exact hlen) (by simp)) (by rintro e x ⟨L2, u, rfl, hq331, hq332, hq333, hb334⟩; exact ⟨_, rfl, ⟨L2, u, rfl, hq331, hq332, hq333, hb334⟩⟩)) ?_ ?_; clear h311
             ·
              rintro u330 w327 ⟨L2329, _, rfl, hq331, hq332, hq333, hb334⟩
              have hu335 := row_under hr324 (rfl : w312.heap.size = _)
              have hr337 := row_kept_new hq299 hg314
              have hu336 := row_under hr337 (rfl : w312.heap.size = _)
              have hu338 := row_under hr328 (rfl : w312.heap.size = _)
              have hz339 := hb334.size
              have hl340 := sl_len (row_sl hq331 entE_len)
              have hE341 : EntsK S w0.heap.size w327 L2329 := EntsK.low hq332 (by omega)
              have hl342 : L2329.length = 1 := e0_len hq333
              have hB343 := fbU_call hB323 hb334
              have hr344 := row_kept_new hr324 (below_grown hb334)
              have hk345 := hk325.below hb334
              exact ⟨hB343, hr344, hk345⟩
             rintro u330 w327 a326 ⟨L2329, _, rfl, hq331, hq332, hq333, hb334⟩ h326
             have hu335 := row_under hr324 (rfl : w312.heap.size = _)
             have hr337 := row_kept_new hq299 hg314
             have hu336 := row_under hr337 (rfl : w312.heap.size = _)
             have hu338 := row_under hr328 (rfl : w312.heap.size = _)
             have hz339 := hb334.size
             have hl340 := sl_len (row_sl hq331 entE_len)
             have hE341 : EntsK S w0.heap.size w327 L2329 := EntsK.low hq332 (by omega)
             have hl342 : L2329.length = 1 := e0_len hq333
             have hB343 := fbU_call hB323 hb334
             have hr344 := row_kept_new hr324 (below_grown hb334)
             have hk345 := hk325.below hb334
             have hr352 := row_kept_new hr337 (below_grown hb334)
             refine d1 11 h326 rfl rfl (op_appendSrc rfl w274.heap.size 37 (z := .agg #[.int .i64 0, .int .i64 0, .slice none 0 0, .int .u64 0]) (size := 4) (bytes := 48) Try.underlying29 (by kernel_rfl) rfl rfl rfl hr352 rfl (row_sl hq331 entE_len) (fun y hy => ⟨entE_len y, entE_oneK (hE341 y hy)⟩) (by first | omega | (simp only [List.length_nil, List.length_append, List.length_cons, List.length_take, List.length_drop]; omega)) (by first | omega | (simp only [List.length_nil, List.length_append, List.length_cons, List.length_take, List.length_drop]; omega)) (by omega)) ?_ ?_; clear h326
             ·
              rintro v348 w347 ⟨hr349, hg350⟩
              have hr349' : w347.ownsRow w274.heap.size 37 4 v348 ((L2297 ++ L2329).length) ((L2297 ++ L2329).flatMap entE) := row_app hr349; clear hr349
              have hz353 := hg350.size
              have hk354 := hk290.below hb302
              have hk355 := hk354.kept hg314 (by simp)
              have hk356 := hk355.below hb334
              have hB357 := fbU_row hB343 (InS.low hq299 (by omega)) hg350
              have hr358 := row_kept_ap hr344 hr352 hu303 hg350
              have hk359 := hk345.kept hg350 (row_ne_lt hr352 (by omega))
              exact ⟨hB357, hr358, hk359⟩
             rintro v348 w347 a346 ⟨hr349, hg350⟩ h346
             have hr349' : w347.ownsRow w274.heap.size 37 4 v348 ((L2297 ++ L2329).length) ((L2297 ++ L2329).flatMap entE) := row_app hr349; clear hr349
             have hz353 := hg350.size
             have hk354 := hk290.below hb302
             have hk355 := hk354.kept hg314 (by simp)
             have hk356 := hk355.below hb334
             have hB357 := fbU_row hB343 (InS.low hq299 (by omega)) hg350
             have hr358 := row_kept_ap hr344 hr352 hu303 hg350
             have hk359 := hk345.kept hg350 (row_ne_lt hr352 (by omega))
             refine dk0 12 (v := pt b 0) h346 rfl rfl ⟨hB357, hr358, hk359⟩ fun a360 h360 => ?_; clear h346
             refine dk0 13 (v := pt b 0) h360 rfl rfl ⟨hB357, hr358, hk359⟩ fun a361 h361 => ?_; clear h360
             have hk367 := hk356.kept hg350 (own_neT hr352 hk356 (by decide))
             refine d1D 14 h361 rfl rfl (op_store1 rfl rfl rfl (row_one hr349') Try.sizeOf29 hk367 rfl) ?_ ?_; clear h361
             ·
              rintro _ w363 ⟨hk364, hz365, hg366⟩
              have hk364' : Blk w363 b 31 #[v348] := hk364; clear hk364
              have hz368 := hg366.size
              have hB369 := fbU_at hB357 hg366 (fun hlt => by rcases hO.sb with hq | hq; exact hq; omega)
              have hr370 := row_kept_at hr358 hg366 (own_neT hr358 hk367 (by decide))
              have hk371 := hk359.kept hg366 (by simp; omega)
              exact ⟨hB369, hr370, hk371⟩
             rintro _ w363 a362 ⟨hk364, hz365, hg366⟩ h362
             have hk364' : Blk w363 b 31 #[v348] := hk364; clear hk364
             have hz368 := hg366.size
             refine dr_done (by kernel_rfl) ?_
             refine co_then ?_
             refine co_seq ?_
             refine co_reg ?_
             refine pk0 (v := .int .i64 0) h362 rfl fun a369 h369 => ?_; clear h362
             refine pl_nil ?_
             refine co_then ?_
             refine wp_ret ?_
             refine co_ret1 h369 rfl rfl ?_
             have hE370 := hE306.new hg314
             have hE371 := hE370.new (below_grown hb334)
             have hE372 := hE371.row hr352 (by decide) hg350
             have hE373 := hE372.blk hk367 (by decide) hg366
             have hE374 := hE341.row hr352 (by decide) hg350
             have hE375 := hE374.blk hk367 (by decide) hg366
             have hr376 := row_kept_at hr349' hg366 (own_neT hr349' hk367 (by decide))
             have hB377 := fbU_at hB357 hg366 (fun hlt => by rcases hO.sb with hq | hq; exact hq; omega)
             have hT := setL_new (n := (j : Int)) hE (by first | exact nm_n (by assumption) (by assumption) | exact nm_o (by omega)) hq301 hq333
             exact ⟨_, _, ret_int hE.symm, ⟨hk364', (row_lows hr376 (Nat.zero_le _)), (EntsK.app hE373 hE375), hO.sb, (InS.low hr376 (by omega)), (by rw [List.length_append]; omega)⟩, hT, hB377⟩
            ·
             refine dr_op (i := 9) h292 rfl rfl rfl rfl (op_new (v := fun N => .slice (some ⟨N, 0, none⟩) 1 1) (T := 37) (cs := #[.int .i64 c, .int .i64 r, v, .int .u64 ts]) (by kernel_rfl) (by kernel_rfl) (by kernel_rfl)) ?_ ?_; clear h292
             ·
              rintro _ w379 ⟨N380, rfl, hN383, hz384, hk382, hg381⟩
              have ha385 := row_fresh hr282 hN383
              have hu386 := row_under hr282 hN383
              have hz387 := hg381.size
              have hB388 := fbU_new hB281 hg381
              have hr389 := row_kept_new hr282 hg381
              have hk390 := hk283.kept hg381 (by simp)
              exact ⟨hB388, hr389, hk390⟩
             rintro _ w379 a378 ⟨N380, rfl, hN383, hz384, hk382, hg381⟩ h378
             have ha385 := row_fresh hr282 hN383
             have hu386 := row_under hr282 hN383
             have hz387 := hg381.size
             try dsimp only at h378
             have hB388 := fbU_new hB281 hg381
             have hr389 := row_kept_new hr282 hg381
             have hk390 := hk283.kept hg381 (by simp)
             have hbad : badT (X.take ((j : Int) : Int).toNat) (EntT.mk c r (.slice none 0 0) l ts) = false := by first | exact hi232.trans hc241
             have hkj : k = j := by omega
             have hE := setE_f (i := (j : Int)) (v := .slice none 0 0) (by omega) (by omega) (by omega) (by have hq := (by assumption : findN (X.take k) (c, r) = none); rw [hkj] at hq; exact hq) hbad
             have hE393 := hf234.new hg243
             have hE394 := hE393.new hg275
             have hE395 := hE394.new hg381
             refine d1 7 h378 rfl rfl (op_call (args := #[subV u 0 j 4]) (R := fun res xw => ∃ L2 : List EntT, ∃ u : Value, res = u ∧ xw.ownsRow w379.heap.size 37 4 u L2.length (L2.flatMap entE) ∧ EntsK (fun _ => False) w379.heap.size xw L2 ∧ L2.map e0 = (X.take j).map e0 ∧ Below w379.heap.size w379 xw) rfl rfl rfl (by kernel_rfl) (by kernel_rfl) (Try.call50 _ _) (rcopy17_any (subV u 0 j 4) (X.take j) w379 (sl_take (row_sl hr389 entE_len) _ (by omega)) (entsK_got (EntsK.take hE395 j)) (fun z hz => ((EntsK.take hE395 j) z hz).len) (by rw [List.length_take]; omega)) (by rintro e x ⟨L2, u, rfl, hq398, hq399, hq400, hb401⟩; exact ⟨_, rfl, ⟨L2, u, rfl, hq398, hq399, hq400, hb401⟩⟩)) ?_ ?_; clear h378
             ·
              rintro u397 w392 ⟨L2396, _, rfl, hq398, hq399, hq400, hb401⟩
              have hu402 := row_under hr389 (rfl : w379.heap.size = _)
              have hz403 := hb401.size
              have hl404 := sl_len (row_sl hq398 entE_len)
              have hE405 : EntsK S w0.heap.size w392 L2396 := EntsK.low hq399 (by omega)
              have hl406 := e0_len hq400; rw [List.length_take] at hl406
              have hB407 := fbU_call hB388 hb401
              have hr408 := row_kept_new hr389 (below_grown hb401)
              have hk409 := hk390.below hb401
              exact ⟨hB407, hr408, hk409⟩
             rintro u397 w392 a391 ⟨L2396, _, rfl, hq398, hq399, hq400, hb401⟩ h391
             have hu402 := row_under hr389 (rfl : w379.heap.size = _)
             have hz403 := hb401.size
             have hl404 := sl_len (row_sl hq398 entE_len)
             have hE405 : EntsK S w0.heap.size w392 L2396 := EntsK.low hq399 (by omega)
             have hl406 := e0_len hq400; rw [List.length_take] at hl406
             have hB407 := fbU_call hB388 hb401
             have hr408 := row_kept_new hr389 (below_grown hb401)
             have hk409 := hk390.below hb401
             have hk413 := hk382.below hb401
             have hr412 := row_of_cells (enc := entE) (sz := 4) ([(EntT.mk c r v l ts)] : List EntT) hk413 (Nat.le_refl _) rfl rfl (by unfold maxLen; simp)
             refine d1 10 h391 rfl rfl (op_call (args := #[.slice (some ⟨N380, 0, none⟩) 1 1]) (R := fun res xw => ∃ L2 : List EntT, ∃ u : Value, res = u ∧ xw.ownsRow w392.heap.size 37 4 u L2.length (L2.flatMap entE) ∧ EntsK (fun _ => False) w392.heap.size xw L2 ∧ L2.map e0 = ([(EntT.mk c r v l ts)] : List EntT).map e0 ∧ Below w392.heap.size w392 xw) rfl rfl rfl (by kernel_rfl) (by kernel_rfl) (Try.call50 _ _) (rcopy17_any (.slice (some ⟨N380, 0, none⟩) 1 1) ([(EntT.mk c r v l ts)] : List EntT) w392 (row_sl hr412 entE_len) (fun z hz => by simp only [List.mem_singleton] at hz; subst hz; exact ⟨sl_butN hs hB407 hvS, hen.1, hts.1, hts.2, hen.2.1, hen.2.2⟩) (fun z hz => by simp only [List.mem_singleton] at hz; subst hz; exact hlen) (by simp)) (by rintro e x ⟨L2, u, rfl, hq416, hq417, hq418, hb419⟩; exact ⟨_, rfl, ⟨L2, u, rfl, hq416, hq417, hq418, hb419⟩⟩)) ?_ ?_; clear h391
             ·
              rintro u415 w411 ⟨L2414, _, rfl, hq416, hq417, hq418, hb419⟩
              have hu420 := row_under hr408 (rfl : w392.heap.size = _)
              have hu421 := row_under hq398 (rfl : w392.heap.size = _)
              have hu422 := row_under hr412 (rfl : w392.heap.size = _)
              have hz423 := hb419.size
              have hl424 := sl_len (row_sl hq416 entE_len)
              have hE425 : EntsK S w0.heap.size w411 L2414 := EntsK.low hq417 (by omega)
              have hl426 : L2414.length = 1 := e0_len hq418
              have hB427 := fbU_call hB407 hb419
              have hr428 := row_kept_new hr408 (below_grown hb419)
              have hk429 := hk409.below hb419
              exact ⟨hB427, hr428, hk429⟩
             rintro u415 w411 a410 ⟨L2414, _, rfl, hq416, hq417, hq418, hb419⟩ h410
             have hu420 := row_under hr408 (rfl : w392.heap.size = _)
             have hu421 := row_under hq398 (rfl : w392.heap.size = _)
             have hu422 := row_under hr412 (rfl : w392.heap.size = _)
             have hz423 := hb419.size
             have hl424 := sl_len (row_sl hq416 entE_len)
             have hE425 : EntsK S w0.heap.size w411 L2414 := EntsK.low hq417 (by omega)
             have hl426 : L2414.length = 1 := e0_len hq418
             have hB427 := fbU_call hB407 hb419
             have hr428 := row_kept_new hr408 (below_grown hb419)
             have hk429 := hk409.below hb419
             have hr436 := row_kept_new hq398 (below_grown hb419)
             refine d1 11 h410 rfl rfl (op_appendSrc rfl w379.heap.size 37 (z := .agg #[.int .i64 0, .int .i64 0, .slice none 0 0, .int .u64 0]) (size := 4) (bytes := 48) Try.underlying29 (by kernel_rfl) rfl rfl rfl hr436 rfl (row_sl hq416 entE_len) (fun y hy => ⟨entE_len y, entE_oneK (hE425 y hy)⟩) (by first | omega | (simp only [List.length_nil, List.length_append, List.length_cons, List.length_take, List.length_drop]; omega)) (by first | omega | (simp only [List.length_nil, List.length_append, List.length_cons, List.length_take, List.length_drop]; omega)) (by omega)) ?_ ?_; clear h410
             ·
              rintro v432 w431 ⟨hr433, hg434⟩
              have hr433' : w431.ownsRow w379.heap.size 37 4 v432 ((L2396 ++ L2414).length) ((L2396 ++ L2414).flatMap entE) := row_app hr433; clear hr433
              have hz437 := hg434.size
              have hk438 := hk290.kept hg381 (by simp)
              have hk439 := hk438.below hb401
              have hk440 := hk439.below hb419
              have hB441 := fbU_row hB427 (InS.low hq398 (by omega)) hg434
              have hr442 := row_kept_ap hr428 hr436 hu402 hg434
              have hk443 := hk429.kept hg434 (row_ne_lt hr436 (by omega))
              exact ⟨hB441, hr442, hk443⟩
             rintro v432 w431 a430 ⟨hr433, hg434⟩ h430
             have hr433' : w431.ownsRow w379.heap.size 37 4 v432 ((L2396 ++ L2414).length) ((L2396 ++ L2414).flatMap entE) := row_app hr433; clear hr433
             have hz437 := hg434.size
             have hk438 := hk290.kept hg381 (by simp)
             have hk439 := hk438.below hb401
             have hk440 := hk439.below hb419
             have hB441 := fbU_row hB427 (InS.low hq398 (by omega)) hg434
             have hr442 := row_kept_ap hr428 hr436 hu402 hg434
             have hk443 := hk429.kept hg434 (row_ne_lt hr436 (by omega))
             refine dk0 12 (v := pt b 0) h430 rfl rfl ⟨hB441, hr442, hk443⟩ fun a444 h444 => ?_; clear h430
             refine dk0 13 (v := pt b 0) h444 rfl rfl ⟨hB441, hr442, hk443⟩ fun a445 h445 => ?_; clear h444
             have hk451 := hk440.kept hg434 (own_neT hr436 hk440 (by decide))
             refine d1D 14 h445 rfl rfl (op_store1 rfl rfl rfl (row_one hr433') Try.sizeOf29 hk451 rfl) ?_ ?_; clear h445
             ·
              rintro _ w447 ⟨hk448, hz449, hg450⟩
              have hk448' : Blk w447 b 31 #[v432] := hk448; clear hk448
              have hz452 := hg450.size
              have hB453 := fbU_at hB441 hg450 (fun hlt => by rcases hO.sb with hq | hq; exact hq; omega)
              have hr454 := row_kept_at hr442 hg450 (own_neT hr442 hk451 (by decide))
              have hk455 := hk443.kept hg450 (by simp; omega)
              exact ⟨hB453, hr454, hk455⟩
             rintro _ w447 a446 ⟨hk448, hz449, hg450⟩ h446
             have hk448' : Blk w447 b 31 #[v432] := hk448; clear hk448
             have hz452 := hg450.size
             refine dr_done (by kernel_rfl) ?_
             refine co_then ?_
             refine co_seq ?_
             refine co_reg ?_
             refine pk0 (v := .int .i64 0) h446 rfl fun a453 h453 => ?_; clear h446
             refine pl_nil ?_
             refine co_then ?_
             refine wp_ret ?_
             refine co_ret1 h453 rfl rfl ?_
             have hE454 := hE405.new (below_grown hb419)
             have hE455 := hE454.row hr436 (by decide) hg434
             have hE456 := hE455.blk hk451 (by decide) hg450
             have hE457 := hE425.row hr436 (by decide) hg434
             have hE458 := hE457.blk hk451 (by decide) hg450
             have hr459 := row_kept_at hr433' hg450 (own_neT hr433' hk451 (by decide))
             have hB460 := fbU_at hB441 hg450 (fun hlt => by rcases hO.sb with hq | hq; exact hq; omega)
             have hT := setL_new (n := (j : Int)) hE (by first | exact nm_n (by assumption) (by assumption) | exact nm_o (by omega)) hq400 hq418
             exact ⟨_, _, ret_int hE.symm, ⟨hk448', (row_lows hr459 (Nat.zero_le _)), (EntsK.app hE456 hE458), hO.sb, (InS.low hr459 (by omega)), (by rw [List.length_append]; omega)⟩, hT, hB460⟩
           ·
            refine dr_op (i := 9) h289 rfl rfl rfl rfl (op_new (v := fun N => .slice (some ⟨N, 0, none⟩) 1 1) (T := 37) (cs := #[.int .i64 c, .int .i64 r, v, .int .u64 ts]) (by kernel_rfl) (by kernel_rfl) (by kernel_rfl)) ?_ ?_; clear h289
            ·
             rintro _ w462 ⟨N463, rfl, hN466, hz467, hk465, hg464⟩
             have ha468 := row_fresh hr282 hN466
             have hu469 := row_under hr282 hN466
             have hz470 := hg464.size
             have hB471 := fbU_new hB281 hg464
             have hr472 := row_kept_new hr282 hg464
             have hk473 := hk283.kept hg464 (by simp)
             exact ⟨hB471, hr472, hk473⟩
            rintro _ w462 a461 ⟨N463, rfl, hN466, hz467, hk465, hg464⟩ h461
            have ha468 := row_fresh hr282 hN466
            have hu469 := row_under hr282 hN466
            have hz470 := hg464.size
            try dsimp only at h461
            have hB471 := fbU_new hB281 hg464
            have hr472 := row_kept_new hr282 hg464
            have hk473 := hk283.kept hg464 (by simp)
            refine dr_many [4] (by kernel_rfl) (by simp) ⟨?_, trivial⟩
            ·
             have hk474 := hk252.kept hg275 (by simp)
             have hk475 := hk474.kept hg464 (by simp)
             refine dr_opVal (i := 4) (v := u) h461 rfl rfl rfl rfl (by kernel_rfl) rfl (rn_load1 rfl rfl Try.isAgg29 (hk475.cell rfl)) ⟨hB471, hr472, hk473⟩ (fun a476 h476 => ?_); clear h461
             refine dk 6 (v := subV u 0 j 4) h476 rfl rfl ⟨hB471, hr472, hk473⟩ (fun x hx => (rn_sliceTo rfl rfl rfl Try.underlying29 Try.sizeOf37 (row_sl hx.2.1 entE_len) (by omega) (by omega))) fun a477 h477 => ?_; clear h476
             have hbad : badT (X.take ((j : Int) : Int).toNat) (EntT.mk c r (.slice none 0 0) l ts) = false := by first | exact hi232.trans hc241
             have hkj : k = j := by omega
             have hE := setE_f (i := (j : Int)) (v := .slice none 0 0) (by omega) (by omega) (by omega) (by have hq := (by assumption : findN (X.take k) (c, r) = none); rw [hkj] at hq; exact hq) hbad
             have hE480 := hf234.new hg243
             have hE481 := hE480.new hg275
             have hE482 := hE481.new hg464
             refine d1 7 h477 rfl rfl (op_call (args := #[subV u 0 j 4]) (R := fun res xw => ∃ L2 : List EntT, ∃ u : Value, res = u ∧ xw.ownsRow w462.heap.size 37 4 u L2.length (L2.flatMap entE) ∧ EntsK (fun _ => False) w462.heap.size xw L2 ∧ L2.map e0 = (X.take j).map e0 ∧ Below w462.heap.size w462 xw) rfl rfl rfl (by kernel_rfl) (by kernel_rfl) (Try.call50 _ _) (rcopy17_any (subV u 0 j 4) (X.take j) w462 (sl_take (row_sl hr472 entE_len) _ (by omega)) (entsK_got (EntsK.take hE482 j)) (fun z hz => ((EntsK.take hE482 j) z hz).len) (by rw [List.length_take]; omega)) (by rintro e x ⟨L2, u, rfl, hq485, hq486, hq487, hb488⟩; exact ⟨_, rfl, ⟨L2, u, rfl, hq485, hq486, hq487, hb488⟩⟩)) ?_ ?_; clear h477
             ·
              rintro u484 w479 ⟨L2483, _, rfl, hq485, hq486, hq487, hb488⟩
              have hu489 := row_under hr472 (rfl : w462.heap.size = _)
              have hz490 := hb488.size
              have hl491 := sl_len (row_sl hq485 entE_len)
              have hE492 : EntsK S w0.heap.size w479 L2483 := EntsK.low hq486 (by omega)
              have hl493 := e0_len hq487; rw [List.length_take] at hl493
              have hB494 := fbU_call hB471 hb488
              have hr495 := row_kept_new hr472 (below_grown hb488)
              have hk496 := hk473.below hb488
              exact ⟨hB494, hr495, hk496⟩
             rintro u484 w479 a478 ⟨L2483, _, rfl, hq485, hq486, hq487, hb488⟩ h478
             have hu489 := row_under hr472 (rfl : w462.heap.size = _)
             have hz490 := hb488.size
             have hl491 := sl_len (row_sl hq485 entE_len)
             have hE492 : EntsK S w0.heap.size w479 L2483 := EntsK.low hq486 (by omega)
             have hl493 := e0_len hq487; rw [List.length_take] at hl493
             have hB494 := fbU_call hB471 hb488
             have hr495 := row_kept_new hr472 (below_grown hb488)
             have hk496 := hk473.below hb488
             have hk500 := hk465.below hb488
             have hr499 := row_of_cells (enc := entE) (sz := 4) ([(EntT.mk c r v l ts)] : List EntT) hk500 (Nat.le_refl _) rfl rfl (by unfold maxLen; simp)
             refine d1 10 h478 rfl rfl (op_call (args := #[.slice (some ⟨N463, 0, none⟩) 1 1]) (R := fun res xw => ∃ L2 : List EntT, ∃ u : Value, res = u ∧ xw.ownsRow w479.heap.size 37 4 u L2.length (L2.flatMap entE) ∧ EntsK (fun _ => False) w479.heap.size xw L2 ∧ L2.map e0 = ([(EntT.mk c r v l ts)] : List EntT).map e0 ∧ Below w479.heap.size w479 xw) rfl rfl rfl (by kernel_rfl) (by kernel_rfl) (Try.call50 _ _) (rcopy17_any (.slice (some ⟨N463, 0, none⟩) 1 1) ([(EntT.mk c r v l ts)] : List EntT) w479 (row_sl hr499 entE_len) (fun z hz => by simp only [List.mem_singleton] at hz; subst hz; exact ⟨sl_butN hs hB494 hvS, hen.1, hts.1, hts.2, hen.2.1, hen.2.2⟩) (fun z hz => by simp only [List.mem_singleton] at hz; subst hz; exact hlen) (by simp)) (by rintro e x ⟨L2, u, rfl, hq503, hq504, hq505, hb506⟩; exact ⟨_, rfl, ⟨L2, u, rfl, hq503, hq504, hq505, hb506⟩⟩)) ?_ ?_; clear h478
             ·
              rintro u502 w498 ⟨L2501, _, rfl, hq503, hq504, hq505, hb506⟩
              have hu507 := row_under hr495 (rfl : w479.heap.size = _)
              have hu508 := row_under hq485 (rfl : w479.heap.size = _)
              have hu509 := row_under hr499 (rfl : w479.heap.size = _)
              have hz510 := hb506.size
              have hl511 := sl_len (row_sl hq503 entE_len)
              have hE512 : EntsK S w0.heap.size w498 L2501 := EntsK.low hq504 (by omega)
              have hl513 : L2501.length = 1 := e0_len hq505
              have hB514 := fbU_call hB494 hb506
              have hr515 := row_kept_new hr495 (below_grown hb506)
              have hk516 := hk496.below hb506
              exact ⟨hB514, hr515, hk516⟩
             rintro u502 w498 a497 ⟨L2501, _, rfl, hq503, hq504, hq505, hb506⟩ h497
             have hu507 := row_under hr495 (rfl : w479.heap.size = _)
             have hu508 := row_under hq485 (rfl : w479.heap.size = _)
             have hu509 := row_under hr499 (rfl : w479.heap.size = _)
             have hz510 := hb506.size
             have hl511 := sl_len (row_sl hq503 entE_len)
             have hE512 : EntsK S w0.heap.size w498 L2501 := EntsK.low hq504 (by omega)
             have hl513 : L2501.length = 1 := e0_len hq505
             have hB514 := fbU_call hB494 hb506
             have hr515 := row_kept_new hr495 (below_grown hb506)
             have hk516 := hk496.below hb506
             have hr523 := row_kept_new hq485 (below_grown hb506)
             refine d1 11 h497 rfl rfl (op_appendSrc rfl w462.heap.size 37 (z := .agg #[.int .i64 0, .int .i64 0, .slice none 0 0, .int .u64 0]) (size := 4) (bytes := 48) Try.underlying29 (by kernel_rfl) rfl rfl rfl hr523 rfl (row_sl hq503 entE_len) (fun y hy => ⟨entE_len y, entE_oneK (hE512 y hy)⟩) (by first | omega | (simp only [List.length_nil, List.length_append, List.length_cons, List.length_take, List.length_drop]; omega)) (by first | omega | (simp only [List.length_nil, List.length_append, List.length_cons, List.length_take, List.length_drop]; omega)) (by omega)) ?_ ?_; clear h497
             ·
              rintro v519 w518 ⟨hr520, hg521⟩
              have hr520' : w518.ownsRow w462.heap.size 37 4 v519 ((L2483 ++ L2501).length) ((L2483 ++ L2501).flatMap entE) := row_app hr520; clear hr520
              have hz524 := hg521.size
              have hk525 := hk475.below hb488
              have hk526 := hk525.below hb506
              have hB527 := fbU_row hB514 (InS.low hq485 (by omega)) hg521
              have hr528 := row_kept_ap hr515 hr523 hu489 hg521
              have hk529 := hk516.kept hg521 (row_ne_lt hr523 (by omega))
              exact ⟨hB527, hr528, hk529⟩
             rintro v519 w518 a517 ⟨hr520, hg521⟩ h517
             have hr520' : w518.ownsRow w462.heap.size 37 4 v519 ((L2483 ++ L2501).length) ((L2483 ++ L2501).flatMap entE) := row_app hr520; clear hr520
             have hz524 := hg521.size
             have hk525 := hk475.below hb488
             have hk526 := hk525.below hb506
             have hB527 := fbU_row hB514 (InS.low hq485 (by omega)) hg521
             have hr528 := row_kept_ap hr515 hr523 hu489 hg521
             have hk529 := hk516.kept hg521 (row_ne_lt hr523 (by omega))
             refine dk0 12 (v := pt b 0) h517 rfl rfl ⟨hB527, hr528, hk529⟩ fun a530 h530 => ?_; clear h517
             refine dk0 13 (v := pt b 0) h530 rfl rfl ⟨hB527, hr528, hk529⟩ fun a531 h531 => ?_; clear h530
             have hk537 := hk526.kept hg521 (own_neT hr523 hk526 (by decide))
             refine d1D 14 h531 rfl rfl (op_store1 rfl rfl rfl (row_one hr520') Try.sizeOf29 hk537 rfl) ?_ ?_; clear h531
             ·
              rintro _ w533 ⟨hk534, hz535, hg536⟩
              have hk534' : Blk w533 b 31 #[v519] := hk534; clear hk534
              have hz538 := hg536.size
              have hB539 := fbU_at hB527 hg536 (fun hlt => by rcases hO.sb with hq | hq; exact hq; omega)
              have hr540 := row_kept_at hr528 hg536 (own_neT hr528 hk537 (by decide))
              have hk541 := hk529.kept hg536 (by simp; omega)
              exact ⟨hB539, hr540, hk541⟩
             rintro _ w533 a532 ⟨hk534, hz535, hg536⟩ h532
             have hk534' : Blk w533 b 31 #[v519] := hk534; clear hk534
             have hz538 := hg536.size
             refine dr_done (by kernel_rfl) ?_
             refine co_then ?_
             refine co_seq ?_
             refine co_reg ?_
             refine pk0 (v := .int .i64 0) h532 rfl fun a539 h539 => ?_; clear h532
             refine pl_nil ?_
             refine co_then ?_
             refine wp_ret ?_
             refine co_ret1 h539 rfl rfl ?_
             have hE540 := hE492.new (below_grown hb506)
             have hE541 := hE540.row hr523 (by decide) hg521
             have hE542 := hE541.blk hk537 (by decide) hg536
             have hE543 := hE512.row hr523 (by decide) hg521
             have hE544 := hE543.blk hk537 (by decide) hg536
             have hr545 := row_kept_at hr520' hg536 (own_neT hr520' hk537 (by decide))
             have hB546 := fbU_at hB527 hg536 (fun hlt => by rcases hO.sb with hq | hq; exact hq; omega)
             have hT := setL_new (n := (j : Int)) hE (by first | exact nm_n (by assumption) (by assumption) | exact nm_o (by omega)) hq487 hq505
             exact ⟨_, _, ret_int hE.symm, ⟨hk534', (row_lows hr545 (Nat.zero_le _)), (EntsK.app hE542 hE544), hO.sb, (InS.low hr545 (by omega)), (by rw [List.length_append]; omega)⟩, hT, hB546⟩
          ·
           rw [hc262] at h261
           have hp547 : ((j : Nat) : Int) < ((X.length : Nat) : Int) := of_decide_eq_true hc262
           clear hc262
           refine dk0 8 (v := pt b 0) h261 rfl rfl ⟨hB250, hr251, hk252, hk253⟩ fun a548 h548 => ?_; clear h261
           refine dk0 9 (v := pt b 0) h548 rfl rfl ⟨hB250, hr251, hk252, hk253⟩ fun a549 h549 => ?_; clear h548
           refine dk0 10 (v := pt b 0) h549 rfl rfl ⟨hB250, hr251, hk252, hk253⟩ fun a550 h550 => ?_; clear h549
           refine dk 11 (v := u) h550 rfl rfl ⟨hB250, hr251, hk252, hk253⟩ (fun x hx => (rn_load1 rfl rfl Try.isAgg29 (hx.2.2.1.cell rfl))) fun a551 h551 => ?_; clear h550
           refine dk0 12 (v := .int .i64 ((j : Nat) : Int)) h551 rfl rfl ⟨hB250, hr251, hk252, hk253⟩ fun a552 h552 => ?_; clear h551
           have hE555 := hf234.new hg243
           obtain ⟨y553, hy553⟩ : ∃ z, X[j]? = some z := ⟨_, List.getElem?_eq_getElem (by first | omega | (simp; done) | (simp; omega))⟩
           have oky553 := (fun (z : EntT) (_ : z ∈ X) => trivial) _ (List.mem_of_getElem? hy553)
           have hy554 := hE555.at hy553
           have hq556 := hy554.ts0; have hq557 := hy554.ts1; have hq558 := hy554.len; have hq559 := wf_i64 hy554.cl; have hq560 := wf_i64 hy554.rq
           refine dk 13 (v := pt (blkOf u) (offOf u + j * 4)) h552 rfl rfl ⟨hB250, hr251, hk252, hk253⟩ (fun x hx => (rn_index rfl rfl rfl Try.underlying29 Try.sizeOf37 (row_sl hx.2.1 entE_len) (by omega) (by first | omega | (simp; done) | (simp; omega)))) fun a561 h561 => ?_; clear h552
           refine dk 14 (v := .agg #[.int .i64 y553.client, .int .i64 y553.req, y553.ops, .int .u64 y553.ts]) h561 rfl rfl ⟨hB250, hr251, hk252, hk253⟩ (fun x hx => (rn_loadN rfl rfl Try.underlying37 rfl (by kernel_rfl) (sl_at (row_sl hx.2.1 entE_len) hy553))) fun a562 h562 => ?_; clear h561
           refine dk 15 (v := .agg #[.int .i64 c, .int .i64 r, v, .int .u64 ts]) h562 rfl rfl ⟨hB250, hr251, hk252, hk253⟩ (fun x hx => (rn_loadN rfl rfl Try.underlying37 rfl (by kernel_rfl) hx.2.2.2.all)) fun a563 h563 => ?_; clear h562
           refine d1 16 h563 rfl rfl (op_call (args := #[.agg #[.int .i64 y553.client, .int .i64 y553.req, y553.ops, .int .u64 y553.ts], .agg #[.int .i64 c, .int .i64 r, v, .int .u64 ts]]) (R := fun res xw => res = .bool ((y553.client == (c : Int)) && (y553.req == (r : Int))) ∧ Below w242.heap.size w242 xw) rfl rfl rfl (by kernel_rfl) (by kernel_rfl) (Try.call12 _ _) (ritemTwins_any y553.client y553.req y553.ops y553.ts c r v ts w242 ) (by rintro e x ⟨rfl, hb566⟩; exact ⟨_, rfl, ⟨rfl, hb566⟩⟩)) ?_ ?_; clear h563
           ·
            rintro _ w565 ⟨rfl, hb566⟩
            have hz567 := hb566.size
            have hB568 := fbU_call hB250 hb566
            have hr569 := row_kept_new hr251 (below_grown hb566)
            have hk570 := hk252.below hb566
            have hk571 := hk253.below hb566
            exact ⟨hB568, hr569, hk570, hk571⟩
           rintro _ w565 a564 ⟨rfl, hb566⟩ h564
           have hz567 := hb566.size
           have hB568 := fbU_call hB250 hb566
           have hr569 := row_kept_new hr251 (below_grown hb566)
           have hk570 := hk252.below hb566
           have hk571 := hk253.below hb566
           refine dk0 17 (v := .bool ((y553.client == (c : Int)) && (y553.req == (r : Int)))) h564 rfl rfl ⟨hB568, hr569, hk570, hk571⟩ fun a572 h572 => ?_; clear h564
           refine dr_done (by kernel_rfl) ?_
           refine co_then ?_
           cases hc573 : (((y553.client == (c : Int)) && (y553.req == (r : Int))))
           ·
            rw [hc573] at h572
            have hp574 : ¬ (y553.client = c ∧ y553.req = r) := by first | simpa using hc573 | simpa [and_assoc] using hc573
            clear hc573
            refine co_false h572 rfl ?_
            refine wp_skip ?_
            refine co_then ?_
            refine co_seq ?_
            refine dr_gen (fun x => But (S) w0 x ∧ x.ownsRow 0 37 4 u X.length (X.flatMap entE) ∧ Blk x N33 37 #[.int .i64 c, .int .i64 r, v, .int .u64 ts]) (by kernel_rfl) (fun w575 hg576 => ?_) (fun w575 hg576 => ?_)
            ·
             have hz577 := hg576.size
             have hB578 := fbU_new hB568 hg576
             have hr579 := row_kept_new hr569 hg576
             have hk580 := hk571.kept hg576 (by simp)
             exact ⟨hB578, hr579, hk580⟩
            have hz581 := hg576.size
            have hB582 := fbU_new hB568 hg576
            have hr583 := row_kept_new hr569 hg576
            have hk584 := hk571.kept hg576 (by simp)
            refine dk0 0 (v := pt b 0) h572 rfl rfl ⟨hB582, hr583, hk584⟩ fun a585 h585 => ?_; clear h572
            refine dk0 1 (v := pt b 0) h585 rfl rfl ⟨hB582, hr583, hk584⟩ fun a586 h586 => ?_; clear h585
            refine dk0 2 (v := pt b 0) h586 rfl rfl ⟨hB582, hr583, hk584⟩ fun a587 h587 => ?_; clear h586
            refine dk0 3 (v := pt b 0) h587 rfl rfl ⟨hB582, hr583, hk584⟩ fun a588 h588 => ?_; clear h587
            refine dk0 5 (v := .int .i64 ((j : Nat) : Int)) h588 rfl rfl ⟨hB582, hr583, hk584⟩ fun a589 h589 => ?_; clear h588
            refine dk 8 (v := .agg #[.int .i64 c, .int .i64 r, v, .int .u64 ts]) h589 rfl rfl ⟨hB582, hr583, hk584⟩ (fun x hx => (rn_loadN rfl rfl Try.underlying37 rfl (by kernel_rfl) hx.2.2.all)) fun a590 h590 => ?_; clear h589
            refine dr_many [4, 9] (by kernel_rfl) (by simp) ⟨?_, ?_, trivial⟩
            ·
             have hk591 := hk570.kept hg576 (by simp)
             refine dr_opVal (i := 4) (v := u) h590 rfl rfl rfl rfl (by kernel_rfl) rfl (rn_load1 rfl rfl Try.isAgg29 (hk591.cell rfl)) ⟨hB582, hr583, hk584⟩ (fun a592 h592 => ?_); clear h590
             refine dk 6 (v := subV u 0 j 4) h592 rfl rfl ⟨hB582, hr583, hk584⟩ (fun x hx => (rn_sliceTo rfl rfl rfl Try.underlying29 Try.sizeOf37 (row_sl hx.2.1 entE_len) (by omega) (by omega))) fun a593 h593 => ?_; clear h592
             refine dr_many [7, 9] (by kernel_rfl) (by simp) ⟨?_, ?_, trivial⟩
             ·
              have hbad : badT (X.take ((j : Int) : Int).toNat) (EntT.mk c r (.slice none 0 0) l ts) = false := by first | exact hi232.trans hc241
              have hkj : k = j := by omega
              have hE := setE_f (i := (j : Int)) (v := .slice none 0 0) (by omega) (by omega) (by omega) (by have hq := (by assumption : findN (X.take k) (c, r) = none); rw [hkj] at hq; exact hq) hbad
              have hE596 := hE555.new (below_grown hb566)
              have hE597 := hE596.new hg576
              refine dr_op (i := 7) h593 rfl rfl rfl rfl (op_call (args := #[subV u 0 j 4]) (R := fun res xw => ∃ L2 : List EntT, ∃ u : Value, res = u ∧ xw.ownsRow w575.heap.size 37 4 u L2.length (L2.flatMap entE) ∧ EntsK (fun _ => False) w575.heap.size xw L2 ∧ L2.map e0 = (X.take j).map e0 ∧ Below w575.heap.size w575 xw) rfl rfl rfl (by kernel_rfl) (by kernel_rfl) (Try.call50 _ _) (rcopy17_any (subV u 0 j 4) (X.take j) w575 (sl_take (row_sl hr583 entE_len) _ (by omega)) (entsK_got (EntsK.take hE597 j)) (fun z hz => ((EntsK.take hE597 j) z hz).len) (by rw [List.length_take]; omega)) (by rintro e x ⟨L2, u, rfl, hq600, hq601, hq602, hb603⟩; exact ⟨_, rfl, ⟨L2, u, rfl, hq600, hq601, hq602, hb603⟩⟩)) ?_ ?_; clear h593
              ·
               rintro u599 w595 ⟨L2598, _, rfl, hq600, hq601, hq602, hb603⟩
               have hu604 := row_under hr583 (rfl : w575.heap.size = _)
               have hz605 := hb603.size
               have hl606 := sl_len (row_sl hq600 entE_len)
               have hE607 : EntsK S w0.heap.size w595 L2598 := EntsK.low hq601 (by omega)
               have hl608 := e0_len hq602; rw [List.length_take] at hl608
               have hB609 := fbU_call hB582 hb603
               have hr610 := row_kept_new hr583 (below_grown hb603)
               have hk611 := hk584.below hb603
               exact ⟨hB609, hr610, hk611⟩
              rintro u599 w595 a594 ⟨L2598, _, rfl, hq600, hq601, hq602, hb603⟩ h594
              have hu604 := row_under hr583 (rfl : w575.heap.size = _)
              have hz605 := hb603.size
              have hl606 := sl_len (row_sl hq600 entE_len)
              have hE607 : EntsK S w0.heap.size w595 L2598 := EntsK.low hq601 (by omega)
              have hl608 := e0_len hq602; rw [List.length_take] at hl608
              have hB609 := fbU_call hB582 hb603
              have hr610 := row_kept_new hr583 (below_grown hb603)
              have hk611 := hk584.below hb603
              refine d1 9 h594 rfl rfl (op_new (v := fun N => .slice (some ⟨N, 0, none⟩) 1 1) (T := 37) (cs := #[.int .i64 c, .int .i64 r, v, .int .u64 ts]) (by kernel_rfl) (by kernel_rfl) (by kernel_rfl)) ?_ ?_; clear h594
              ·
               rintro _ w613 ⟨N614, rfl, hN617, hz618, hk616, hg615⟩
               have ha619 := row_fresh hr610 hN617
               have hu620 := row_under hr610 hN617
               have hr622 := row_kept_new hy554.row (below_grown hb566)
               have hr623 := row_kept_new hr622 hg576
               have hr624 := row_kept_new hr623 (below_grown hb603)
               have ha621 := row_fresh hr624 hN617
               have hu625 := row_under hr624 hN617
               have ha626 := row_fresh hq600 hN617
               have hu627 := row_under hq600 hN617
               have hz628 := hg615.size
               have hB629 := fbU_new hB609 hg615
               have hr630 := row_kept_new hr610 hg615
               have hk631 := hk611.kept hg615 (by simp)
               exact ⟨hB629, hr630, hk631⟩
              rintro _ w613 a612 ⟨N614, rfl, hN617, hz618, hk616, hg615⟩ h612
              have ha619 := row_fresh hr610 hN617
              have hu620 := row_under hr610 hN617
              have hr622 := row_kept_new hy554.row (below_grown hb566)
              have hr623 := row_kept_new hr622 hg576
              have hr624 := row_kept_new hr623 (below_grown hb603)
              have ha621 := row_fresh hr624 hN617
              have hu625 := row_under hr624 hN617
              have ha626 := row_fresh hq600 hN617
              have hu627 := row_under hq600 hN617
              have hz628 := hg615.size
              try dsimp only at h612
              have hB629 := fbU_new hB609 hg615
              have hr630 := row_kept_new hr610 hg615
              have hk631 := hk611.kept hg615 (by simp)
              have hr634 := row_of_cells (enc := entE) (sz := 4) ([(EntT.mk c r v l ts)] : List EntT) hk616 (Nat.le_refl _) rfl rfl (by unfold maxLen; simp)
              refine d1 10 h612 rfl rfl (op_call (args := #[.slice (some ⟨N614, 0, none⟩) 1 1]) (R := fun res xw => ∃ L2 : List EntT, ∃ u : Value, res = u ∧ xw.ownsRow w613.heap.size 37 4 u L2.length (L2.flatMap entE) ∧ EntsK (fun _ => False) w613.heap.size xw L2 ∧ L2.map e0 = ([(EntT.mk c r v l ts)] : List EntT).map e0 ∧ Below w613.heap.size w613 xw) rfl rfl rfl (by kernel_rfl) (by kernel_rfl) (Try.call50 _ _) (rcopy17_any (.slice (some ⟨N614, 0, none⟩) 1 1) ([(EntT.mk c r v l ts)] : List EntT) w613 (row_sl hr634 entE_len) (fun z hz => by simp only [List.mem_singleton] at hz; subst hz; exact ⟨sl_butN hs hB629 hvS, hen.1, hts.1, hts.2, hen.2.1, hen.2.2⟩) (fun z hz => by simp only [List.mem_singleton] at hz; subst hz; exact hlen) (by simp)) (by rintro e x ⟨L2, u, rfl, hq637, hq638, hq639, hb640⟩; exact ⟨_, rfl, ⟨L2, u, rfl, hq637, hq638, hq639, hb640⟩⟩)) ?_ ?_; clear h612
              ·
               rintro u636 w633 ⟨L2635, _, rfl, hq637, hq638, hq639, hb640⟩
               have hu641 := row_under hr630 (rfl : w613.heap.size = _)
               have hr643 := row_kept_new hq600 hg615
               have hu642 := row_under hr643 (rfl : w613.heap.size = _)
               have hu644 := row_under hr634 (rfl : w613.heap.size = _)
               have hz645 := hb640.size
               have hl646 := sl_len (row_sl hq637 entE_len)
               have hE647 : EntsK S w0.heap.size w633 L2635 := EntsK.low hq638 (by omega)
               have hl648 : L2635.length = 1 := e0_len hq639
               have hB649 := fbU_call hB629 hb640
               have hr650 := row_kept_new hr630 (below_grown hb640)
               have hk651 := hk631.below hb640
               exact ⟨hB649, hr650, hk651⟩
              rintro u636 w633 a632 ⟨L2635, _, rfl, hq637, hq638, hq639, hb640⟩ h632
              have hu641 := row_under hr630 (rfl : w613.heap.size = _)
              have hr643 := row_kept_new hq600 hg615
              have hu642 := row_under hr643 (rfl : w613.heap.size = _)
              have hu644 := row_under hr634 (rfl : w613.heap.size = _)
              have hz645 := hb640.size
              have hl646 := sl_len (row_sl hq637 entE_len)
              have hE647 : EntsK S w0.heap.size w633 L2635 := EntsK.low hq638 (by omega)
              have hl648 : L2635.length = 1 := e0_len hq639
              have hB649 := fbU_call hB629 hb640
              have hr650 := row_kept_new hr630 (below_grown hb640)
              have hk651 := hk631.below hb640
              have hr658 := row_kept_new hr643 (below_grown hb640)
              refine d1 11 h632 rfl rfl (op_appendSrc rfl w575.heap.size 37 (z := .agg #[.int .i64 0, .int .i64 0, .slice none 0 0, .int .u64 0]) (size := 4) (bytes := 48) Try.underlying29 (by kernel_rfl) rfl rfl rfl hr658 rfl (row_sl hq637 entE_len) (fun y hy => ⟨entE_len y, entE_oneK (hE647 y hy)⟩) (by first | omega | (simp only [List.length_nil, List.length_append, List.length_cons, List.length_take, List.length_drop]; omega)) (by first | omega | (simp only [List.length_nil, List.length_append, List.length_cons, List.length_take, List.length_drop]; omega)) (by omega)) ?_ ?_; clear h632
              ·
               rintro v654 w653 ⟨hr655, hg656⟩
               have hr655' : w653.ownsRow w575.heap.size 37 4 v654 ((L2598 ++ L2635).length) ((L2598 ++ L2635).flatMap entE) := row_app hr655; clear hr655
               have hz659 := hg656.size
               have hk660 := hk591.below hb603
               have hk661 := hk660.kept hg615 (by simp)
               have hk662 := hk661.below hb640
               have hB663 := fbU_row hB649 (InS.low hq600 (by omega)) hg656
               have hr664 := row_kept_ap hr650 hr658 hu604 hg656
               have hk665 := hk651.kept hg656 (row_ne_lt hr658 (by omega))
               exact ⟨hB663, hr664, hk665⟩
              rintro v654 w653 a652 ⟨hr655, hg656⟩ h652
              have hr655' : w653.ownsRow w575.heap.size 37 4 v654 ((L2598 ++ L2635).length) ((L2598 ++ L2635).flatMap entE) := row_app hr655; clear hr655
              have hz659 := hg656.size
              have hk660 := hk591.below hb603
              have hk661 := hk660.kept hg615 (by simp)
              have hk662 := hk661.below hb640
              have hB663 := fbU_row hB649 (InS.low hq600 (by omega)) hg656
              have hr664 := row_kept_ap hr650 hr658 hu604 hg656
              have hk665 := hk651.kept hg656 (row_ne_lt hr658 (by omega))
              refine dk0 12 (v := pt b 0) h652 rfl rfl ⟨hB663, hr664, hk665⟩ fun a666 h666 => ?_; clear h652
              refine dk0 13 (v := pt b 0) h666 rfl rfl ⟨hB663, hr664, hk665⟩ fun a667 h667 => ?_; clear h666
              have hk673 := hk662.kept hg656 (own_neT hr658 hk662 (by decide))
              refine d1D 14 h667 rfl rfl (op_store1 rfl rfl rfl (row_one hr655') Try.sizeOf29 hk673 rfl) ?_ ?_; clear h667
              ·
               rintro _ w669 ⟨hk670, hz671, hg672⟩
               have hk670' : Blk w669 b 31 #[v654] := hk670; clear hk670
               have hz674 := hg672.size
               have hB675 := fbU_at hB663 hg672 (fun hlt => by rcases hO.sb with hq | hq; exact hq; omega)
               have hr676 := row_kept_at hr664 hg672 (own_neT hr664 hk673 (by decide))
               have hk677 := hk665.kept hg672 (by simp; omega)
               exact ⟨hB675, hr676, hk677⟩
              rintro _ w669 a668 ⟨hk670, hz671, hg672⟩ h668
              have hk670' : Blk w669 b 31 #[v654] := hk670; clear hk670
              have hz674 := hg672.size
              refine dr_done (by kernel_rfl) ?_
              refine co_then ?_
              refine co_seq ?_
              refine co_reg ?_
              refine pk0 (v := .int .i64 0) h668 rfl fun a675 h675 => ?_; clear h668
              refine pl_nil ?_
              refine co_then ?_
              refine wp_ret ?_
              refine co_ret1 h675 rfl rfl ?_
              have hE676 := hE607.new hg615
              have hE677 := hE676.new (below_grown hb640)
              have hE678 := hE677.row hr658 (by decide) hg656
              have hE679 := hE678.blk hk673 (by decide) hg672
              have hE680 := hE647.row hr658 (by decide) hg656
              have hE681 := hE680.blk hk673 (by decide) hg672
              have hr682 := row_kept_at hr655' hg672 (own_neT hr655' hk673 (by decide))
              have hB683 := fbU_at hB663 hg672 (fun hlt => by rcases hO.sb with hq | hq; exact hq; omega)
              have hT := setL_new (n := (j : Int)) hE (by first | exact nm_n (by assumption) (by assumption) | exact nm_o (by omega)) hq602 hq639
              exact ⟨_, _, ret_int hE.symm, ⟨hk670', (row_lows hr682 (Nat.zero_le _)), (EntsK.app hE679 hE681), hO.sb, (InS.low hr682 (by omega)), (by rw [List.length_append]; omega)⟩, hT, hB683⟩
             ·
              refine dr_op (i := 9) h593 rfl rfl rfl rfl (op_new (v := fun N => .slice (some ⟨N, 0, none⟩) 1 1) (T := 37) (cs := #[.int .i64 c, .int .i64 r, v, .int .u64 ts]) (by kernel_rfl) (by kernel_rfl) (by kernel_rfl)) ?_ ?_; clear h593
              ·
               rintro _ w685 ⟨N686, rfl, hN689, hz690, hk688, hg687⟩
               have ha691 := row_fresh hr583 hN689
               have hu692 := row_under hr583 hN689
               have hr694 := row_kept_new hy554.row (below_grown hb566)
               have hr695 := row_kept_new hr694 hg576
               have ha693 := row_fresh hr695 hN689
               have hu696 := row_under hr695 hN689
               have hz697 := hg687.size
               have hB698 := fbU_new hB582 hg687
               have hr699 := row_kept_new hr583 hg687
               have hk700 := hk584.kept hg687 (by simp)
               exact ⟨hB698, hr699, hk700⟩
              rintro _ w685 a684 ⟨N686, rfl, hN689, hz690, hk688, hg687⟩ h684
              have ha691 := row_fresh hr583 hN689
              have hu692 := row_under hr583 hN689
              have hr694 := row_kept_new hy554.row (below_grown hb566)
              have hr695 := row_kept_new hr694 hg576
              have ha693 := row_fresh hr695 hN689
              have hu696 := row_under hr695 hN689
              have hz697 := hg687.size
              try dsimp only at h684
              have hB698 := fbU_new hB582 hg687
              have hr699 := row_kept_new hr583 hg687
              have hk700 := hk584.kept hg687 (by simp)
              have hbad : badT (X.take ((j : Int) : Int).toNat) (EntT.mk c r (.slice none 0 0) l ts) = false := by first | exact hi232.trans hc241
              have hkj : k = j := by omega
              have hE := setE_f (i := (j : Int)) (v := .slice none 0 0) (by omega) (by omega) (by omega) (by have hq := (by assumption : findN (X.take k) (c, r) = none); rw [hkj] at hq; exact hq) hbad
              have hE703 := hE555.new (below_grown hb566)
              have hE704 := hE703.new hg576
              have hE705 := hE704.new hg687
              refine d1 7 h684 rfl rfl (op_call (args := #[subV u 0 j 4]) (R := fun res xw => ∃ L2 : List EntT, ∃ u : Value, res = u ∧ xw.ownsRow w685.heap.size 37 4 u L2.length (L2.flatMap entE) ∧ EntsK (fun _ => False) w685.heap.size xw L2 ∧ L2.map e0 = (X.take j).map e0 ∧ Below w685.heap.size w685 xw) rfl rfl rfl (by kernel_rfl) (by kernel_rfl) (Try.call50 _ _) (rcopy17_any (subV u 0 j 4) (X.take j) w685 (sl_take (row_sl hr699 entE_len) _ (by omega)) (entsK_got (EntsK.take hE705 j)) (fun z hz => ((EntsK.take hE705 j) z hz).len) (by rw [List.length_take]; omega)) (by rintro e x ⟨L2, u, rfl, hq708, hq709, hq710, hb711⟩; exact ⟨_, rfl, ⟨L2, u, rfl, hq708, hq709, hq710, hb711⟩⟩)) ?_ ?_; clear h684
              ·
               rintro u707 w702 ⟨L2706, _, rfl, hq708, hq709, hq710, hb711⟩
               have hu712 := row_under hr699 (rfl : w685.heap.size = _)
               have hz713 := hb711.size
               have hl714 := sl_len (row_sl hq708 entE_len)
               have hE715 : EntsK S w0.heap.size w702 L2706 := EntsK.low hq709 (by omega)
               have hl716 := e0_len hq710; rw [List.length_take] at hl716
               have hB717 := fbU_call hB698 hb711
               have hr718 := row_kept_new hr699 (below_grown hb711)
               have hk719 := hk700.below hb711
               exact ⟨hB717, hr718, hk719⟩
              rintro u707 w702 a701 ⟨L2706, _, rfl, hq708, hq709, hq710, hb711⟩ h701
              have hu712 := row_under hr699 (rfl : w685.heap.size = _)
              have hz713 := hb711.size
              have hl714 := sl_len (row_sl hq708 entE_len)
              have hE715 : EntsK S w0.heap.size w702 L2706 := EntsK.low hq709 (by omega)
              have hl716 := e0_len hq710; rw [List.length_take] at hl716
              have hB717 := fbU_call hB698 hb711
              have hr718 := row_kept_new hr699 (below_grown hb711)
              have hk719 := hk700.below hb711
              have hk723 := hk688.below hb711
              have hr722 := row_of_cells (enc := entE) (sz := 4) ([(EntT.mk c r v l ts)] : List EntT) hk723 (Nat.le_refl _) rfl rfl (by unfold maxLen; simp)
              refine d1 10 h701 rfl rfl (op_call (args := #[.slice (some ⟨N686, 0, none⟩) 1 1]) (R := fun res xw => ∃ L2 : List EntT, ∃ u : Value, res = u ∧ xw.ownsRow w702.heap.size 37 4 u L2.length (L2.flatMap entE) ∧ EntsK (fun _ => False) w702.heap.size xw L2 ∧ L2.map e0 = ([(EntT.mk c r v l ts)] : List EntT).map e0 ∧ Below w702.heap.size w702 xw) rfl rfl rfl (by kernel_rfl) (by kernel_rfl) (Try.call50 _ _) (rcopy17_any (.slice (some ⟨N686, 0, none⟩) 1 1) ([(EntT.mk c r v l ts)] : List EntT) w702 (row_sl hr722 entE_len) (fun z hz => by simp only [List.mem_singleton] at hz; subst hz; exact ⟨sl_butN hs hB717 hvS, hen.1, hts.1, hts.2, hen.2.1, hen.2.2⟩) (fun z hz => by simp only [List.mem_singleton] at hz; subst hz; exact hlen) (by simp)) (by rintro e x ⟨L2, u, rfl, hq726, hq727, hq728, hb729⟩; exact ⟨_, rfl, ⟨L2, u, rfl, hq726, hq727, hq728, hb729⟩⟩)) ?_ ?_; clear h701
              ·
               rintro u725 w721 ⟨L2724, _, rfl, hq726, hq727, hq728, hb729⟩
               have hu730 := row_under hr718 (rfl : w702.heap.size = _)
               have hu731 := row_under hq708 (rfl : w702.heap.size = _)
               have hu732 := row_under hr722 (rfl : w702.heap.size = _)
               have hz733 := hb729.size
               have hl734 := sl_len (row_sl hq726 entE_len)
               have hE735 : EntsK S w0.heap.size w721 L2724 := EntsK.low hq727 (by omega)
               have hl736 : L2724.length = 1 := e0_len hq728
               have hB737 := fbU_call hB717 hb729
               have hr738 := row_kept_new hr718 (below_grown hb729)
               have hk739 := hk719.below hb729
               exact ⟨hB737, hr738, hk739⟩
              rintro u725 w721 a720 ⟨L2724, _, rfl, hq726, hq727, hq728, hb729⟩ h720
              have hu730 := row_under hr718 (rfl : w702.heap.size = _)
              have hu731 := row_under hq708 (rfl : w702.heap.size = _)
              have hu732 := row_under hr722 (rfl : w702.heap.size = _)
              have hz733 := hb729.size
              have hl734 := sl_len (row_sl hq726 entE_len)
              have hE735 : EntsK S w0.heap.size w721 L2724 := EntsK.low hq727 (by omega)
              have hl736 : L2724.length = 1 := e0_len hq728
              have hB737 := fbU_call hB717 hb729
              have hr738 := row_kept_new hr718 (below_grown hb729)
              have hk739 := hk719.below hb729
              have hr746 := row_kept_new hq708 (below_grown hb729)
              refine d1 11 h720 rfl rfl (op_appendSrc rfl w685.heap.size 37 (z := .agg #[.int .i64 0, .int .i64 0, .slice none 0 0, .int .u64 0]) (size := 4) (bytes := 48) Try.underlying29 (by kernel_rfl) rfl rfl rfl hr746 rfl (row_sl hq726 entE_len) (fun y hy => ⟨entE_len y, entE_oneK (hE735 y hy)⟩) (by first | omega | (simp only [List.length_nil, List.length_append, List.length_cons, List.length_take, List.length_drop]; omega)) (by first | omega | (simp only [List.length_nil, List.length_append, List.length_cons, List.length_take, List.length_drop]; omega)) (by omega)) ?_ ?_; clear h720
              ·
               rintro v742 w741 ⟨hr743, hg744⟩
               have hr743' : w741.ownsRow w685.heap.size 37 4 v742 ((L2706 ++ L2724).length) ((L2706 ++ L2724).flatMap entE) := row_app hr743; clear hr743
               have hz747 := hg744.size
               have hk748 := hk591.kept hg687 (by simp)
               have hk749 := hk748.below hb711
               have hk750 := hk749.below hb729
               have hB751 := fbU_row hB737 (InS.low hq708 (by omega)) hg744
               have hr752 := row_kept_ap hr738 hr746 hu712 hg744
               have hk753 := hk739.kept hg744 (row_ne_lt hr746 (by omega))
               exact ⟨hB751, hr752, hk753⟩
              rintro v742 w741 a740 ⟨hr743, hg744⟩ h740
              have hr743' : w741.ownsRow w685.heap.size 37 4 v742 ((L2706 ++ L2724).length) ((L2706 ++ L2724).flatMap entE) := row_app hr743; clear hr743
              have hz747 := hg744.size
              have hk748 := hk591.kept hg687 (by simp)
              have hk749 := hk748.below hb711
              have hk750 := hk749.below hb729
              have hB751 := fbU_row hB737 (InS.low hq708 (by omega)) hg744
              have hr752 := row_kept_ap hr738 hr746 hu712 hg744
              have hk753 := hk739.kept hg744 (row_ne_lt hr746 (by omega))
              refine dk0 12 (v := pt b 0) h740 rfl rfl ⟨hB751, hr752, hk753⟩ fun a754 h754 => ?_; clear h740
              refine dk0 13 (v := pt b 0) h754 rfl rfl ⟨hB751, hr752, hk753⟩ fun a755 h755 => ?_; clear h754
              have hk761 := hk750.kept hg744 (own_neT hr746 hk750 (by decide))
              refine d1D 14 h755 rfl rfl (op_store1 rfl rfl rfl (row_one hr743') Try.sizeOf29 hk761 rfl) ?_ ?_; clear h755
              ·
               rintro _ w757 ⟨hk758, hz759, hg760⟩
               have hk758' : Blk w757 b 31 #[v742] := hk758; clear hk758
               have hz762 := hg760.size
               have hB763 := fbU_at hB751 hg760 (fun hlt => by rcases hO.sb with hq | hq; exact hq; omega)
               have hr764 := row_kept_at hr752 hg760 (own_neT hr752 hk761 (by decide))
               have hk765 := hk753.kept hg760 (by simp; omega)
               exact ⟨hB763, hr764, hk765⟩
              rintro _ w757 a756 ⟨hk758, hz759, hg760⟩ h756
              have hk758' : Blk w757 b 31 #[v742] := hk758; clear hk758
              have hz762 := hg760.size
              refine dr_done (by kernel_rfl) ?_
              refine co_then ?_
              refine co_seq ?_
              refine co_reg ?_
              refine pk0 (v := .int .i64 0) h756 rfl fun a763 h763 => ?_; clear h756
              refine pl_nil ?_
              refine co_then ?_
              refine wp_ret ?_
              refine co_ret1 h763 rfl rfl ?_
              have hE764 := hE715.new (below_grown hb729)
              have hE765 := hE764.row hr746 (by decide) hg744
              have hE766 := hE765.blk hk761 (by decide) hg760
              have hE767 := hE735.row hr746 (by decide) hg744
              have hE768 := hE767.blk hk761 (by decide) hg760
              have hr769 := row_kept_at hr743' hg760 (own_neT hr743' hk761 (by decide))
              have hB770 := fbU_at hB751 hg760 (fun hlt => by rcases hO.sb with hq | hq; exact hq; omega)
              have hT := setL_new (n := (j : Int)) hE (by first | exact nm_n (by assumption) (by assumption) | exact nm_o (by omega)) hq710 hq728
              exact ⟨_, _, ret_int hE.symm, ⟨hk758', (row_lows hr769 (Nat.zero_le _)), (EntsK.app hE766 hE768), hO.sb, (InS.low hr769 (by omega)), (by rw [List.length_append]; omega)⟩, hT, hB770⟩
            ·
             refine dr_op (i := 9) h590 rfl rfl rfl rfl (op_new (v := fun N => .slice (some ⟨N, 0, none⟩) 1 1) (T := 37) (cs := #[.int .i64 c, .int .i64 r, v, .int .u64 ts]) (by kernel_rfl) (by kernel_rfl) (by kernel_rfl)) ?_ ?_; clear h590
             ·
              rintro _ w772 ⟨N773, rfl, hN776, hz777, hk775, hg774⟩
              have ha778 := row_fresh hr583 hN776
              have hu779 := row_under hr583 hN776
              have hr781 := row_kept_new hy554.row (below_grown hb566)
              have hr782 := row_kept_new hr781 hg576
              have ha780 := row_fresh hr782 hN776
              have hu783 := row_under hr782 hN776
              have hz784 := hg774.size
              have hB785 := fbU_new hB582 hg774
              have hr786 := row_kept_new hr583 hg774
              have hk787 := hk584.kept hg774 (by simp)
              exact ⟨hB785, hr786, hk787⟩
             rintro _ w772 a771 ⟨N773, rfl, hN776, hz777, hk775, hg774⟩ h771
             have ha778 := row_fresh hr583 hN776
             have hu779 := row_under hr583 hN776
             have hr781 := row_kept_new hy554.row (below_grown hb566)
             have hr782 := row_kept_new hr781 hg576
             have ha780 := row_fresh hr782 hN776
             have hu783 := row_under hr782 hN776
             have hz784 := hg774.size
             try dsimp only at h771
             have hB785 := fbU_new hB582 hg774
             have hr786 := row_kept_new hr583 hg774
             have hk787 := hk584.kept hg774 (by simp)
             refine dr_many [4] (by kernel_rfl) (by simp) ⟨?_, trivial⟩
             ·
              have hk788 := hk570.kept hg576 (by simp)
              have hk789 := hk788.kept hg774 (by simp)
              refine dr_opVal (i := 4) (v := u) h771 rfl rfl rfl rfl (by kernel_rfl) rfl (rn_load1 rfl rfl Try.isAgg29 (hk789.cell rfl)) ⟨hB785, hr786, hk787⟩ (fun a790 h790 => ?_); clear h771
              refine dk 6 (v := subV u 0 j 4) h790 rfl rfl ⟨hB785, hr786, hk787⟩ (fun x hx => (rn_sliceTo rfl rfl rfl Try.underlying29 Try.sizeOf37 (row_sl hx.2.1 entE_len) (by omega) (by omega))) fun a791 h791 => ?_; clear h790
              have hbad : badT (X.take ((j : Int) : Int).toNat) (EntT.mk c r (.slice none 0 0) l ts) = false := by first | exact hi232.trans hc241
              have hkj : k = j := by omega
              have hE := setE_f (i := (j : Int)) (v := .slice none 0 0) (by omega) (by omega) (by omega) (by have hq := (by assumption : findN (X.take k) (c, r) = none); rw [hkj] at hq; exact hq) hbad
              have hE794 := hE555.new (below_grown hb566)
              have hE795 := hE794.new hg576
              have hE796 := hE795.new hg774
              refine d1 7 h791 rfl rfl (op_call (args := #[subV u 0 j 4]) (R := fun res xw => ∃ L2 : List EntT, ∃ u : Value, res = u ∧ xw.ownsRow w772.heap.size 37 4 u L2.length (L2.flatMap entE) ∧ EntsK (fun _ => False) w772.heap.size xw L2 ∧ L2.map e0 = (X.take j).map e0 ∧ Below w772.heap.size w772 xw) rfl rfl rfl (by kernel_rfl) (by kernel_rfl) (Try.call50 _ _) (rcopy17_any (subV u 0 j 4) (X.take j) w772 (sl_take (row_sl hr786 entE_len) _ (by omega)) (entsK_got (EntsK.take hE796 j)) (fun z hz => ((EntsK.take hE796 j) z hz).len) (by rw [List.length_take]; omega)) (by rintro e x ⟨L2, u, rfl, hq799, hq800, hq801, hb802⟩; exact ⟨_, rfl, ⟨L2, u, rfl, hq799, hq800, hq801, hb802⟩⟩)) ?_ ?_; clear h791
              ·
               rintro u798 w793 ⟨L2797, _, rfl, hq799, hq800, hq801, hb802⟩
               have hu803 := row_under hr786 (rfl : w772.heap.size = _)
               have hz804 := hb802.size
               have hl805 := sl_len (row_sl hq799 entE_len)
               have hE806 : EntsK S w0.heap.size w793 L2797 := EntsK.low hq800 (by omega)
               have hl807 := e0_len hq801; rw [List.length_take] at hl807
               have hB808 := fbU_call hB785 hb802
               have hr809 := row_kept_new hr786 (below_grown hb802)
               have hk810 := hk787.below hb802
               exact ⟨hB808, hr809, hk810⟩
              rintro u798 w793 a792 ⟨L2797, _, rfl, hq799, hq800, hq801, hb802⟩ h792
              have hu803 := row_under hr786 (rfl : w772.heap.size = _)
              have hz804 := hb802.size
              have hl805 := sl_len (row_sl hq799 entE_len)
              have hE806 : EntsK S w0.heap.size w793 L2797 := EntsK.low hq800 (by omega)
              have hl807 := e0_len hq801; rw [List.length_take] at hl807
              have hB808 := fbU_call hB785 hb802
              have hr809 := row_kept_new hr786 (below_grown hb802)
              have hk810 := hk787.below hb802
              have hk814 := hk775.below hb802
              have hr813 := row_of_cells (enc := entE) (sz := 4) ([(EntT.mk c r v l ts)] : List EntT) hk814 (Nat.le_refl _) rfl rfl (by unfold maxLen; simp)
              refine d1 10 h792 rfl rfl (op_call (args := #[.slice (some ⟨N773, 0, none⟩) 1 1]) (R := fun res xw => ∃ L2 : List EntT, ∃ u : Value, res = u ∧ xw.ownsRow w793.heap.size 37 4 u L2.length (L2.flatMap entE) ∧ EntsK (fun _ => False) w793.heap.size xw L2 ∧ L2.map e0 = ([(EntT.mk c r v l ts)] : List EntT).map e0 ∧ Below w793.heap.size w793 xw) rfl rfl rfl (by kernel_rfl) (by kernel_rfl) (Try.call50 _ _) (rcopy17_any (.slice (some ⟨N773, 0, none⟩) 1 1) ([(EntT.mk c r v l ts)] : List EntT) w793 (row_sl hr813 entE_len) (fun z hz => by simp only [List.mem_singleton] at hz; subst hz; exact ⟨sl_butN hs hB808 hvS, hen.1, hts.1, hts.2, hen.2.1, hen.2.2⟩) (fun z hz => by simp only [List.mem_singleton] at hz; subst hz; exact hlen) (by simp)) (by rintro e x ⟨L2, u, rfl, hq817, hq818, hq819, hb820⟩; exact ⟨_, rfl, ⟨L2, u, rfl, hq817, hq818, hq819, hb820⟩⟩)) ?_ ?_; clear h792
              ·
               rintro u816 w812 ⟨L2815, _, rfl, hq817, hq818, hq819, hb820⟩
               have hu821 := row_under hr809 (rfl : w793.heap.size = _)
               have hu822 := row_under hq799 (rfl : w793.heap.size = _)
               have hu823 := row_under hr813 (rfl : w793.heap.size = _)
               have hz824 := hb820.size
               have hl825 := sl_len (row_sl hq817 entE_len)
               have hE826 : EntsK S w0.heap.size w812 L2815 := EntsK.low hq818 (by omega)
               have hl827 : L2815.length = 1 := e0_len hq819
               have hB828 := fbU_call hB808 hb820
               have hr829 := row_kept_new hr809 (below_grown hb820)
               have hk830 := hk810.below hb820
               exact ⟨hB828, hr829, hk830⟩
              rintro u816 w812 a811 ⟨L2815, _, rfl, hq817, hq818, hq819, hb820⟩ h811
              have hu821 := row_under hr809 (rfl : w793.heap.size = _)
              have hu822 := row_under hq799 (rfl : w793.heap.size = _)
              have hu823 := row_under hr813 (rfl : w793.heap.size = _)
              have hz824 := hb820.size
              have hl825 := sl_len (row_sl hq817 entE_len)
              have hE826 : EntsK S w0.heap.size w812 L2815 := EntsK.low hq818 (by omega)
              have hl827 : L2815.length = 1 := e0_len hq819
              have hB828 := fbU_call hB808 hb820
              have hr829 := row_kept_new hr809 (below_grown hb820)
              have hk830 := hk810.below hb820
              have hr837 := row_kept_new hq799 (below_grown hb820)
              refine d1 11 h811 rfl rfl (op_appendSrc rfl w772.heap.size 37 (z := .agg #[.int .i64 0, .int .i64 0, .slice none 0 0, .int .u64 0]) (size := 4) (bytes := 48) Try.underlying29 (by kernel_rfl) rfl rfl rfl hr837 rfl (row_sl hq817 entE_len) (fun y hy => ⟨entE_len y, entE_oneK (hE826 y hy)⟩) (by first | omega | (simp only [List.length_nil, List.length_append, List.length_cons, List.length_take, List.length_drop]; omega)) (by first | omega | (simp only [List.length_nil, List.length_append, List.length_cons, List.length_take, List.length_drop]; omega)) (by omega)) ?_ ?_; clear h811
              ·
               rintro v833 w832 ⟨hr834, hg835⟩
               have hr834' : w832.ownsRow w772.heap.size 37 4 v833 ((L2797 ++ L2815).length) ((L2797 ++ L2815).flatMap entE) := row_app hr834; clear hr834
               have hz838 := hg835.size
               have hk839 := hk789.below hb802
               have hk840 := hk839.below hb820
               have hB841 := fbU_row hB828 (InS.low hq799 (by omega)) hg835
               have hr842 := row_kept_ap hr829 hr837 hu803 hg835
               have hk843 := hk830.kept hg835 (row_ne_lt hr837 (by omega))
               exact ⟨hB841, hr842, hk843⟩
              rintro v833 w832 a831 ⟨hr834, hg835⟩ h831
              have hr834' : w832.ownsRow w772.heap.size 37 4 v833 ((L2797 ++ L2815).length) ((L2797 ++ L2815).flatMap entE) := row_app hr834; clear hr834
              have hz838 := hg835.size
              have hk839 := hk789.below hb802
              have hk840 := hk839.below hb820
              have hB841 := fbU_row hB828 (InS.low hq799 (by omega)) hg835
              have hr842 := row_kept_ap hr829 hr837 hu803 hg835
              have hk843 := hk830.kept hg835 (row_ne_lt hr837 (by omega))
              refine dk0 12 (v := pt b 0) h831 rfl rfl ⟨hB841, hr842, hk843⟩ fun a844 h844 => ?_; clear h831
              refine dk0 13 (v := pt b 0) h844 rfl rfl ⟨hB841, hr842, hk843⟩ fun a845 h845 => ?_; clear h844
              have hk851 := hk840.kept hg835 (own_neT hr837 hk840 (by decide))
              refine d1D 14 h845 rfl rfl (op_store1 rfl rfl rfl (row_one hr834') Try.sizeOf29 hk851 rfl) ?_ ?_; clear h845
              ·
               rintro _ w847 ⟨hk848, hz849, hg850⟩
               have hk848' : Blk w847 b 31 #[v833] := hk848; clear hk848
               have hz852 := hg850.size
               have hB853 := fbU_at hB841 hg850 (fun hlt => by rcases hO.sb with hq | hq; exact hq; omega)
               have hr854 := row_kept_at hr842 hg850 (own_neT hr842 hk851 (by decide))
               have hk855 := hk843.kept hg850 (by simp; omega)
               exact ⟨hB853, hr854, hk855⟩
              rintro _ w847 a846 ⟨hk848, hz849, hg850⟩ h846
              have hk848' : Blk w847 b 31 #[v833] := hk848; clear hk848
              have hz852 := hg850.size
              refine dr_done (by kernel_rfl) ?_
              refine co_then ?_
              refine co_seq ?_
              refine co_reg ?_
              refine pk0 (v := .int .i64 0) h846 rfl fun a853 h853 => ?_; clear h846
              refine pl_nil ?_
              refine co_then ?_
              refine wp_ret ?_
              refine co_ret1 h853 rfl rfl ?_
              have hE854 := hE806.new (below_grown hb820)
              have hE855 := hE854.row hr837 (by decide) hg835
              have hE856 := hE855.blk hk851 (by decide) hg850
              have hE857 := hE826.row hr837 (by decide) hg835
              have hE858 := hE857.blk hk851 (by decide) hg850
              have hr859 := row_kept_at hr834' hg850 (own_neT hr834' hk851 (by decide))
              have hB860 := fbU_at hB841 hg850 (fun hlt => by rcases hO.sb with hq | hq; exact hq; omega)
              have hT := setL_new (n := (j : Int)) hE (by first | exact nm_n (by assumption) (by assumption) | exact nm_o (by omega)) hq801 hq819
              exact ⟨_, _, ret_int hE.symm, ⟨hk848', (row_lows hr859 (Nat.zero_le _)), (EntsK.app hE856 hE858), hO.sb, (InS.low hr859 (by omega)), (by rw [List.length_append]; omega)⟩, hT, hB860⟩
           ·
            rw [hc573] at h572
            have hp861 : y553.client = c ∧ y553.req = r := by first | simpa using hc573 | simpa [and_assoc] using hc573
            clear hc573
            refine co_true h572 rfl ?_
            refine co_seq ?_
            refine co_reg ?_
            refine pk0 (v := pt b 0) h572 rfl fun a862 h862 => ?_; clear h572
            refine pk0 (v := pt b 0) h862 rfl fun a863 h863 => ?_; clear h862
            refine pk0 (v := pt b 0) h863 rfl fun a864 h864 => ?_; clear h863
            refine pk (v := u) h864 rfl (rn_load1 rfl rfl Try.isAgg29 (hk570.cell rfl)) fun a865 h865 => ?_; clear h864
            have hbad : badT (X.take ((j : Int) : Int).toNat) (EntT.mk c r (.slice none 0 0) l ts) = false := by first | exact hi232.trans hc241
            have hkj : k = j := by omega
            have hE := setE_f (i := (j : Int)) (v := .slice none 0 0) (by omega) (by omega) (by omega) (by have hq := (by assumption : findN (X.take k) (c, r) = none); rw [hkj] at hq; exact hq) hbad
            have hE868 := hE555.new (below_grown hb566)
            refine pw h865 rfl (op_call (args := #[u]) (R := fun res xw => ∃ L2 : List EntT, ∃ u : Value, res = u ∧ xw.ownsRow w565.heap.size 37 4 u L2.length (L2.flatMap entE) ∧ EntsK (fun _ => False) w565.heap.size xw L2 ∧ L2.map e0 = X.map e0 ∧ Below w565.heap.size w565 xw) rfl rfl rfl (by kernel_rfl) (by kernel_rfl) (Try.call50 _ _) (rcopy17_any u X w565 (row_sl hr569 entE_len) (entsK_got hE868) (fun z hz => (hE868 z hz).len) hO.len) (by rintro e x ⟨L2, u, rfl, hq871, hq872, hq873, hb874⟩; exact ⟨_, rfl, ⟨L2, u, rfl, hq871, hq872, hq873, hb874⟩⟩)) ?_; clear h865
            rintro u870 w867 a866 ⟨L2869, _, rfl, hq871, hq872, hq873, hb874⟩ h866
            have hu875 := row_under hr569 (rfl : w565.heap.size = _)
            have hz876 := hb874.size
            have hl877 := sl_len (row_sl hq871 entE_len)
            have hE878 : EntsK S w0.heap.size w867 L2869 := EntsK.low hq872 (by omega)
            have hl879 := e0_len hq873
            refine pk0 (v := u870) h866 rfl fun a880 h880 => ?_; clear h866
            refine pl_nil ?_
            refine co_then ?_
            refine co_seq ?_
            refine co_seq ?_
            refine co_reg ?_
            refine pk0 (v := .int .i64 ((j : Nat) : Int)) h880 rfl fun a881 h881 => ?_; clear h880
            refine pk (v := .int .i64 ((j + 1 : Nat) : Int)) h881 rfl (rn_arith' rfl rfl rfl rfl rfl rfl (IntWalk.i64_in _ (by omega)) (by omega)) fun a882 h882 => ?_; clear h881
            refine pk0 (v := .int .i64 ((j + 1 : Nat) : Int)) h882 rfl fun a883 h883 => ?_; clear h882
            refine pl_nil ?_
            refine co_then ?_
            refine wp_block ?_
            have h884 : Slots 145 [(0, pt b 0), (1, .int .i64 ((j : Nat) : Int)), (5, pt N33 0), (9, u870), (10, .int .i64 ((j + 1 : Nat) : Int))] _ := h883.sub ⟨rfl, rfl, rfl, rfl, rfl, trivial⟩; clear h883
            refine co_loop (fun mm a x => ∃ (q : Nat) (Mk : List EntT), Slots 145 [(0, pt b 0), (1, .int .i64 ((j : Nat) : Int)), (5, pt N33 0), (9, u870), (10, .int .i64 ((q : Nat) : Int))] a ∧ mm = X.length - q ∧ (j < q) ∧ (q ≤ X.length) ∧ (Mk.map e0 = (clL X j q).map e0) ∧ (q = j + 1 ∨ ¬ y553.ts = ts) ∧ x.ownsRow w565.heap.size 37 4 u870 Mk.length (Mk.flatMap entE) ∧ x.ownsRow 0 37 4 u X.length (X.flatMap entE) ∧ EntsK S w0.heap.size x Mk ∧ But (S) w0 x ∧ Blk x b 31 #[u] ∧ Blk x N33 37 #[.int .i64 c, .int .i64 r, v, .int .u64 ts]) (X.length - (j + 1)) ?_ ?_
            have hr885 := row_kept_new hr569 (below_grown hb874)
            have hB886 := fbU_call hB568 hb874
            have hk887 := hk570.below hb874
            have hk888 := hk571.below hb874
            · exact ⟨(j + 1), L2869, h884.sub ⟨rfl, rfl, rfl, rfl, rfl, trivial⟩, rfl, by omega, by omega, by first | exact hck | (rw [clL_0]; assumption), by omega, hq871, hr885, hE878, hB886, hk887, hk888⟩
            · rintro k889 a890 w891 ⟨q, Mk, h890, rfl, hi892, hi893, hi894, hi895, hf896, hf897, hf898, hB899, hk900, hk901⟩
              have hz902 := hB899.size
              have hl903 := hk900.lt
              have hl904 := hk901.lt
              have hMl : Mk.length = X.length := by have := e0_len (by assumption : Mk.map e0 = (clL X j q).map e0); rw [clL_len] at this; exact this
              refine co_seq ?_
              refine co_seq ?_
              refine dr_eq (by kernel_rfl) (fun w905 hg906 => ?_)
              have hz907 := hg906.size
              refine dk0 0 (v := .int .i64 ((q : Nat) : Int)) h890 rfl rfl rfl fun a908 h908 => ?_; clear h890
              refine dk0 1 (v := u870) h908 rfl rfl rfl fun a909 h909 => ?_; clear h908
              have hr910 := row_kept_new hf896 hg906
              refine dk 2 (v := .int .i64 ((Mk.length : Nat) : Int)) h909 rfl rfl rfl (fun x hx => by subst hx; exact (rn_lenOwn rfl rfl Try.underlying29 hr910)) fun a911 h911 => ?_; clear h909
              refine dk0 3 (v := .bool (decide (((q : Nat) : Int) < ((Mk.length : Nat) : Int)))) h911 rfl rfl rfl fun a912 h912 => ?_; clear h911
              refine dk0 4 (v := .bool (decide (((q : Nat) : Int) < ((Mk.length : Nat) : Int)))) h912 rfl rfl rfl fun a913 h913 => ?_; clear h912
              have hB915 := fbU_new hB899 hg906
              cases hc914 : (decide (((q : Nat) : Int) < ((Mk.length : Nat) : Int)))
              ·
               rw [hc914] at h913
               have hp916 : ¬ (((q : Nat) : Int) < ((Mk.length : Nat) : Int)) := of_decide_eq_false hc914
               clear hc914
               refine dsk 5 h913 rfl rfl rfl fun a917 h917 => ?_; clear h913
               refine dsk 6 h917 rfl rfl rfl fun a918 h918 => ?_; clear h917
               refine dsk 7 h918 rfl rfl rfl fun a919 h919 => ?_; clear h918
               refine dsk 8 h919 rfl rfl rfl fun a920 h920 => ?_; clear h919
               refine dsk 9 h920 rfl rfl rfl fun a921 h921 => ?_; clear h920
               refine dsk 10 h921 rfl rfl rfl fun a922 h922 => ?_; clear h921
               refine dsk 11 h922 rfl rfl rfl fun a923 h923 => ?_; clear h922
               refine dsk 12 h923 rfl rfl rfl fun a924 h924 => ?_; clear h923
               refine dk0 13 (v := .bool false) h924 rfl rfl rfl fun a925 h925 => ?_; clear h924
               refine dr_done (by kernel_rfl) ?_
               refine co_then ?_
               refine co_false h925 rfl ?_
               refine wp_exit ?_
               refine co_thenX ?_
               refine co_thenX ?_
               refine co_blockX ?_
               refine co_then ?_
               refine co_seq ?_
               refine co_reg ?_
               refine pk0 (v := u870) h925 rfl fun a926 h926 => ?_; clear h925
               refine pk0 (v := .int .i64 ((j : Nat) : Int)) h926 rfl fun a927 h927 => ?_; clear h926
               refine pk0 (v := pt N33 3) h927 rfl fun a928 h928 => ?_; clear h927
               have hk929 := hk901.kept hg906 (by simp)
               refine pk (v := .int .u64 ts) h928 rfl (rn_load1 rfl rfl Try.isAgg23 (hk929.cell rfl)) fun a930 h930 => ?_; clear h928
               have hE933 := hf898.new hg906
               obtain ⟨y931, hy931⟩ : ∃ z, Mk[j]? = some z := ⟨_, List.getElem?_eq_getElem (by first | omega | (simp; done) | (simp; omega))⟩
               have oky931 := (fun (z : EntT) (_ : z ∈ Mk) => trivial) _ (List.mem_of_getElem? hy931)
               have hy932 := hE933.at hy931
               have hq934 := hy932.ts0; have hq935 := hy932.ts1; have hq936 := hy932.len; have hq937 := wf_i64 hy932.cl; have hq938 := wf_i64 hy932.rq
               have ht939 := clL_ts (by assumption : Mk.map e0 = (clL X j q).map e0) hy931 hy553
               refine pk (v := pt (blkOf u870) (offOf u870 + j * 4)) h930 rfl (rn_index rfl rfl rfl Try.underlying29 Try.sizeOf37 (row_sl hr910 entE_len) (by omega) (by first | omega | (simp; done) | (simp; omega))) fun a940 h940 => ?_; clear h930
               refine pk0 (v := pt (blkOf u870) (offOf u870 + j * 4 + 3)) h940 rfl fun a941 h941 => ?_; clear h940
               refine pwD h941 rfl (op_storeRow (c := j * 4 + 3) rfl rfl rfl rfl Try.sizeOf23 hr910 (flat_lt entE_len (by first | omega | (simp; omega)) (by omega)) (by first | rfl | omega)) ?_; clear h941
               rintro _ w943 a942 ⟨hr944, hz945, hg946⟩ h942
               have hr944' := row_set (y' := (EntT.mk y931.client y931.req (y931.ops) y931.opl ts)) hr944 entE_len hy931 (by omega) rfl; clear hr944
               have hz947 := hg946.size
               have hk948 := hk900.kept hg906 (by simp)
               have hE950 := hE933.row hr910 (by decide) hg946
               have hE949 := EntsK.set (i := j) hE950 (EntK.ts (t := ts) (EntsK.at hE950 hy931) (by omega))
               refine pl_nil ?_
               refine co_then ?_
               refine co_seq ?_
               refine co_reg ?_
               refine pk0 (v := pt b 0) h942 rfl fun a951 h951 => ?_; clear h942
               refine pk0 (v := u870) h951 rfl fun a952 h952 => ?_; clear h951
               refine pk0 (v := pt b 0) h952 rfl fun a953 h953 => ?_; clear h952
               refine pk0 (v := pt b 0) h953 rfl fun a954 h954 => ?_; clear h953
               have hk960 := hk948.kept hg946 (own_neT hr910 hk948 (by decide))
               refine pwD h954 rfl (op_store1 rfl rfl rfl (row_one hr944') Try.sizeOf29 hk960 rfl) ?_; clear h954
               rintro _ w956 a955 ⟨hk957, hz958, hg959⟩ h955
               have hk957' : Blk w956 b 31 #[u870] := hk957; clear hk957
               have hz961 := hg959.size
               refine pl_nil ?_
               refine co_then ?_
               refine co_seq ?_
               refine co_reg ?_
               refine pk0 (v := .int .i64 0) h955 rfl fun a962 h962 => ?_; clear h955
               refine pl_nil ?_
               refine co_then ?_
               refine wp_ret ?_
               refine co_thenR ?_
               refine co_ret1 h962 rfl rfl ?_
               have hr963 := row_kept_at hr944' hg959 (own_neT hr944' hk960 (by decide))
               have hE964 := hE949.blk hk960 (by decide) hg959
               have hB965 := fbU_row hB915 (InS.low hf896 (by omega)) hg946
               have hB966 := fbU_at hB965 hg959 (fun hlt => by rcases hO.sb with hq | hq; exact hq; omega)
               have hX' := clL_end (ts := ts) (by assumption : Mk.map e0 = (clL X j q).map e0) hy931 hy553 (by omega) (by omega) (by omega)
               have hT := setL_tw (ts := ts) (l := l) (n := (j : Int)) hE (nm_y (c := c) (r := r) hy553 (by assumption))
               exact ⟨_, _, ret_int hE.symm, ⟨hk957', (row_lows hr963 (Nat.zero_le _)), hE964, hO.sb, (InS.low hf896 (by omega)), (by rw [List.length_set]; have := hO.len; omega)⟩, by rw [hT]; exact hX', hB966⟩
              ·
               rw [hc914] at h913
               have hp967 : ((q : Nat) : Int) < ((Mk.length : Nat) : Int) := of_decide_eq_true hc914
               clear hc914
               refine dk0 5 (v := u870) h913 rfl rfl rfl fun a968 h968 => ?_; clear h913
               refine dk0 6 (v := .int .i64 ((j : Nat) : Int)) h968 rfl rfl rfl fun a969 h969 => ?_; clear h968
               have hE972 := hf898.new hg906
               obtain ⟨y970, hy970⟩ : ∃ z, Mk[j]? = some z := ⟨_, List.getElem?_eq_getElem (by first | omega | (simp; done) | (simp; omega))⟩
               have oky970 := (fun (z : EntT) (_ : z ∈ Mk) => trivial) _ (List.mem_of_getElem? hy970)
               have hy971 := hE972.at hy970
               have hq973 := hy971.ts0; have hq974 := hy971.ts1; have hq975 := hy971.len; have hq976 := wf_i64 hy971.cl; have hq977 := wf_i64 hy971.rq
               have ht978 := clL_ts (by assumption : Mk.map e0 = (clL X j q).map e0) hy970 hy553
               refine dk 7 (v := pt (blkOf u870) (offOf u870 + j * 4)) h969 rfl rfl rfl (fun x hx => by subst hx; exact (rn_index rfl rfl rfl Try.underlying29 Try.sizeOf37 (row_sl hr910 entE_len) (by omega) (by first | omega | (simp; done) | (simp; omega)))) fun a979 h979 => ?_; clear h969
               refine dk0 8 (v := pt (blkOf u870) (offOf u870 + j * 4 + 3)) h979 rfl rfl rfl fun a980 h980 => ?_; clear h979
               refine dk 9 (v := .int .u64 y970.ts) h980 rfl rfl rfl (fun x hx => by subst hx; exact (rn_load1 rfl rfl Try.isAgg23 ((sl_at (row_sl hr910 entE_len) hy970) 3 _ rfl))) fun a981 h981 => ?_; clear h980
               refine dk0 10 (v := pt N33 3) h981 rfl rfl rfl fun a982 h982 => ?_; clear h981
               have hk983 := hk901.kept hg906 (by simp)
               refine dk 11 (v := .int .u64 ts) h982 rfl rfl rfl (fun x hx => by subst hx; exact (rn_load1 rfl rfl Try.isAgg23 (hk983.cell rfl))) fun a984 h984 => ?_; clear h982
               refine dk0 12 (v := .bool (y970.ts != ts)) h984 rfl rfl rfl fun a985 h985 => ?_; clear h984
               refine dk0 13 (v := .bool (y970.ts != ts)) h985 rfl rfl rfl fun a986 h986 => ?_; clear h985
               refine dr_done (by kernel_rfl) ?_
               refine co_then ?_
               cases hc987 : (y970.ts != ts)
               ·
                rw [hc987] at h986
                have hp988 : ¬ (y970.ts ≠ ts) := by first | simpa using hc987 | simpa [and_assoc] using hc987
                clear hc987
                refine co_false h986 rfl ?_
                refine wp_exit ?_
                refine co_thenX ?_
                refine co_thenX ?_
                refine co_blockX ?_
                refine co_then ?_
                refine co_seq ?_
                refine co_reg ?_
                refine pk0 (v := u870) h986 rfl fun a989 h989 => ?_; clear h986
                refine pk0 (v := .int .i64 ((j : Nat) : Int)) h989 rfl fun a990 h990 => ?_; clear h989
                refine pk0 (v := pt N33 3) h990 rfl fun a991 h991 => ?_; clear h990
                refine pk (v := .int .u64 ts) h991 rfl (rn_load1 rfl rfl Try.isAgg23 (hk983.cell rfl)) fun a992 h992 => ?_; clear h991
                refine pk (v := pt (blkOf u870) (offOf u870 + j * 4)) h992 rfl (rn_index rfl rfl rfl Try.underlying29 Try.sizeOf37 (row_sl hr910 entE_len) (by omega) (by first | omega | (simp; done) | (simp; omega))) fun a993 h993 => ?_; clear h992
                refine pk0 (v := pt (blkOf u870) (offOf u870 + j * 4 + 3)) h993 rfl fun a994 h994 => ?_; clear h993
                refine pwD h994 rfl (op_storeRow (c := j * 4 + 3) rfl rfl rfl rfl Try.sizeOf23 hr910 (flat_lt entE_len (by first | omega | (simp; omega)) (by omega)) (by first | rfl | omega)) ?_; clear h994
                rintro _ w996 a995 ⟨hr997, hz998, hg999⟩ h995
                have hr997' := row_set (y' := (EntT.mk y970.client y970.req (y970.ops) y970.opl ts)) hr997 entE_len hy970 (by omega) rfl; clear hr997
                have hz1000 := hg999.size
                have hk1001 := hk900.kept hg906 (by simp)
                have hE1003 := hE972.row hr910 (by decide) hg999
                have hE1002 := EntsK.set (i := j) hE1003 (EntK.ts (t := ts) (EntsK.at hE1003 hy970) (by omega))
                refine pl_nil ?_
                refine co_then ?_
                refine co_seq ?_
                refine co_reg ?_
                refine pk0 (v := pt b 0) h995 rfl fun a1004 h1004 => ?_; clear h995
                refine pk0 (v := u870) h1004 rfl fun a1005 h1005 => ?_; clear h1004
                refine pk0 (v := pt b 0) h1005 rfl fun a1006 h1006 => ?_; clear h1005
                refine pk0 (v := pt b 0) h1006 rfl fun a1007 h1007 => ?_; clear h1006
                have hk1013 := hk1001.kept hg999 (own_neT hr910 hk1001 (by decide))
                refine pwD h1007 rfl (op_store1 rfl rfl rfl (row_one hr997') Try.sizeOf29 hk1013 rfl) ?_; clear h1007
                rintro _ w1009 a1008 ⟨hk1010, hz1011, hg1012⟩ h1008
                have hk1010' : Blk w1009 b 31 #[u870] := hk1010; clear hk1010
                have hz1014 := hg1012.size
                refine pl_nil ?_
                refine co_then ?_
                refine co_seq ?_
                refine co_reg ?_
                refine pk0 (v := .int .i64 0) h1008 rfl fun a1015 h1015 => ?_; clear h1008
                refine pl_nil ?_
                refine co_then ?_
                refine wp_ret ?_
                refine co_thenR ?_
                refine co_ret1 h1015 rfl rfl ?_
                have hr1016 := row_kept_at hr997' hg1012 (own_neT hr997' hk1013 (by decide))
                have hE1017 := hE1002.blk hk1013 (by decide) hg1012
                have hB1018 := fbU_row hB915 (InS.low hf896 (by omega)) hg999
                have hB1019 := fbU_at hB1018 hg1012 (fun hlt => by rcases hO.sb with hq | hq; exact hq; omega)
                have hX' := clL_end (ts := ts) (by assumption : Mk.map e0 = (clL X j q).map e0) hy970 hy553 (by omega) (by omega) (by omega)
                have hT := setL_tw (ts := ts) (l := l) (n := (j : Int)) hE (nm_y (c := c) (r := r) hy553 (by assumption))
                exact ⟨_, _, ret_int hE.symm, ⟨hk1010', (row_lows hr1016 (Nat.zero_le _)), hE1017, hO.sb, (InS.low hf896 (by omega)), (by rw [List.length_set]; have := hO.len; omega)⟩, by rw [hT]; exact hX', hB1019⟩
               ·
                rw [hc987] at h986
                have hp1020 : y970.ts ≠ ts := by first | simpa using hc987 | simpa [and_assoc] using hc987
                clear hc987
                refine co_true h986 rfl ?_
                refine wp_skip ?_
                refine co_then ?_
                refine co_seq ?_
                refine wp_block ?_
                refine co_reg ?_
                refine pk0 (v := u870) h986 rfl fun a1021 h1021 => ?_; clear h986
                refine pk0 (v := .int .i64 ((q : Nat) : Int)) h1021 rfl fun a1022 h1022 => ?_; clear h1021
                obtain ⟨y1023, hy1023⟩ : ∃ z, Mk[q]? = some z := ⟨_, List.getElem?_eq_getElem (by first | omega | (simp; done) | (simp; omega))⟩
                have oky1023 := (fun (z : EntT) (_ : z ∈ Mk) => trivial) _ (List.mem_of_getElem? hy1023)
                have hy1024 := hE972.at hy1023
                have hq1025 := hy1024.ts0; have hq1026 := hy1024.ts1; have hq1027 := hy1024.len; have hq1028 := wf_i64 hy1024.cl; have hq1029 := wf_i64 hy1024.rq
                refine pk (v := pt (blkOf u870) (offOf u870 + q * 4)) h1022 rfl (rn_index rfl rfl rfl Try.underlying29 Try.sizeOf37 (row_sl hr910 entE_len) (by omega) (by first | omega | (simp; done) | (simp; omega))) fun a1030 h1030 => ?_; clear h1022
                refine pk0 (v := pt (blkOf u870) (offOf u870 + q * 4 + 3)) h1030 rfl fun a1031 h1031 => ?_; clear h1030
                refine pwD h1031 rfl (op_storeRow (c := q * 4 + 3) rfl rfl rfl rfl Try.sizeOf23 hr910 (flat_lt entE_len (by first | omega | (simp; omega)) (by omega)) (by first | rfl | omega)) ?_; clear h1031
                rintro _ w1033 a1032 ⟨hr1034, hz1035, hg1036⟩ h1032
                have hr1034' := row_set (y' := (EntT.mk y1023.client y1023.req (y1023.ops) y1023.opl 0)) hr1034 entE_len hy1023 (by omega) rfl; clear hr1034
                have hz1037 := hg1036.size
                have hk1038 := hk900.kept hg906 (by simp)
                have hE1040 := hE972.row hr910 (by decide) hg1036
                have hE1039 := EntsK.set (i := q) hE1040 (EntK.ts (t := 0) (EntsK.at hE1040 hy1023) (by omega))
                refine pl_nil ?_
                refine co_blockN ?_
                refine co_then ?_
                refine co_reg ?_
                refine pk0 (v := .int .i64 ((q : Nat) : Int)) h1032 rfl fun a1041 h1041 => ?_; clear h1032
                refine pk (v := .int .i64 ((q + 1 : Nat) : Int)) h1041 rfl (rn_arith' rfl rfl rfl rfl rfl rfl (IntWalk.i64_in _ (by omega)) (by omega)) fun a1042 h1042 => ?_; clear h1041
                refine pk0 (v := .int .i64 ((q + 1 : Nat) : Int)) h1042 rfl fun a1043 h1043 => ?_; clear h1042
                refine pl_nil ?_
                refine co_then ?_
                refine ⟨(X.length - (q + 1)), by omega, ?_⟩
                have hck := clL_step (by assumption : Mk.map e0 = (clL X j q).map e0) hy1023 (by omega)
                have hr1044 := row_kept_new hf897 hg906
                have hr1045 := row_kept_ap hr1044 hr910 hu875 hg1036
                have hB1046 := fbU_row hB915 (InS.low hf896 (by omega)) hg1036
                have hk1047 := hk1038.kept hg1036 (own_neT hr910 hk1038 (by decide))
                have hk1048 := hk983.kept hg1036 (row_ne_lt hr910 (by omega))
                exact ⟨q + 1, (Mk.set q (EntT.mk y1023.client y1023.req (y1023.ops) y1023.opl 0)), h1043.sub ⟨rfl, rfl, rfl, rfl, rfl, trivial⟩, rfl, by omega, by omega, by first | exact hck | (rw [clL_0]; assumption), by omega, hr1034', hr1045, hE1039, hB1046, hk1047, hk1048⟩
         ·
          rw [hc241] at h230
          refine co_true h230 rfl ?_
          refine co_seq ?_
          refine co_reg ?_
          refine pk0 (v := .int .i64 18) h230 rfl fun a1049 h1049 => ?_; clear h230
          refine pl_nil ?_
          refine co_then ?_
          refine wp_ret ?_
          refine co_thenR ?_
          refine co_ret1 h1049 rfl rfl ?_
          have hE : setE X (j : Int) c r l ts = 18 := setE_e (v := .slice none 0 0) (by omega) (by omega) (by omega) (by have hq := (by assumption : findN (X.take k) (c, r) = none); rw [show k = j by omega] at hq; exact hq) (by first | exact hi232.trans hc241)
          exact ⟨_, _, ret_int hE.symm, ⟨hf235, hf233, hf234, hO.sb, hO.su, hO.len⟩, by rw [setL_no (by rw [hE]; omega)], hB237⟩
        ·
         rw [hc97] at h96
         have hp1050 : ((k : Nat) : Int) < ((j : Nat) : Int) := of_decide_eq_true hc97
         clear hc97
         refine co_true h96 rfl ?_
         refine wp_skip ?_
         refine co_then ?_
         refine co_seq ?_
         refine wp_block ?_
         refine co_seq ?_
         refine dr_gen (fun x => But (S) w0 x ∧ Blk x b 31 #[u] ∧ Blk x N33 37 #[.int .i64 c, .int .i64 r, v, .int .u64 ts] ∧ x.ownsRow 0 37 4 u X.length (X.flatMap entE)) (by kernel_rfl) (fun w1051 hg1052 => ?_) (fun w1051 hg1052 => ?_)
         ·
          have hz1053 := hg1052.size
          have hB1054 := fbU_new hB88 hg1052
          have hk1055 := hk89.kept hg1052 (by simp)
          have hk1056 := hk90.kept hg1052 (by simp)
          have hr1057 := row_kept_new hf86 hg1052
          exact ⟨hB1054, hk1055, hk1056, hr1057⟩
         have hz1058 := hg1052.size
         have hB1059 := fbU_new hB88 hg1052
         have hk1060 := hk89.kept hg1052 (by simp)
         have hk1061 := hk90.kept hg1052 (by simp)
         have hr1062 := row_kept_new hf86 hg1052
         refine dk0 0 (v := pt b 0) h96 rfl rfl ⟨hB1059, hk1060, hk1061, hr1062⟩ fun a1063 h1063 => ?_; clear h96
         refine dk0 1 (v := pt b 0) h1063 rfl rfl ⟨hB1059, hk1060, hk1061, hr1062⟩ fun a1064 h1064 => ?_; clear h1063
         refine dk0 2 (v := pt b 0) h1064 rfl rfl ⟨hB1059, hk1060, hk1061, hr1062⟩ fun a1065 h1065 => ?_; clear h1064
         refine dk 3 (v := u) h1065 rfl rfl ⟨hB1059, hk1060, hk1061, hr1062⟩ (fun x hx => (rn_load1 rfl rfl Try.isAgg29 (hx.2.1.cell rfl))) fun a1066 h1066 => ?_; clear h1065
         refine dk0 4 (v := .int .i64 ((k : Nat) : Int)) h1066 rfl rfl ⟨hB1059, hk1060, hk1061, hr1062⟩ fun a1067 h1067 => ?_; clear h1066
         have hE1070 := hf87.new hg1052
         obtain ⟨y1068, hy1068⟩ : ∃ z, X[k]? = some z := ⟨_, List.getElem?_eq_getElem (by first | omega | (simp; done) | (simp; omega))⟩
         have oky1068 := (fun (z : EntT) (_ : z ∈ X) => trivial) _ (List.mem_of_getElem? hy1068)
         have hy1069 := hE1070.at hy1068
         have hq1071 := hy1069.ts0; have hq1072 := hy1069.ts1; have hq1073 := hy1069.len; have hq1074 := wf_i64 hy1069.cl; have hq1075 := wf_i64 hy1069.rq
         refine dk 5 (v := pt (blkOf u) (offOf u + k * 4)) h1067 rfl rfl ⟨hB1059, hk1060, hk1061, hr1062⟩ (fun x hx => (rn_index rfl rfl rfl Try.underlying29 Try.sizeOf37 (row_sl hx.2.2.2 entE_len) (by omega) (by first | omega | (simp; done) | (simp; omega)))) fun a1076 h1076 => ?_; clear h1067
         refine dk 6 (v := .agg #[.int .i64 y1068.client, .int .i64 y1068.req, y1068.ops, .int .u64 y1068.ts]) h1076 rfl rfl ⟨hB1059, hk1060, hk1061, hr1062⟩ (fun x hx => (rn_loadN rfl rfl Try.underlying37 rfl (by kernel_rfl) (sl_at (row_sl hx.2.2.2 entE_len) hy1068))) fun a1077 h1077 => ?_; clear h1076
         refine dk 7 (v := .agg #[.int .i64 c, .int .i64 r, v, .int .u64 ts]) h1077 rfl rfl ⟨hB1059, hk1060, hk1061, hr1062⟩ (fun x hx => (rn_loadN rfl rfl Try.underlying37 rfl (by kernel_rfl) hx.2.2.1.all)) fun a1078 h1078 => ?_; clear h1077
         refine d1 8 h1078 rfl rfl (op_call (args := #[.agg #[.int .i64 y1068.client, .int .i64 y1068.req, y1068.ops, .int .u64 y1068.ts], .agg #[.int .i64 c, .int .i64 r, v, .int .u64 ts]]) (R := fun res xw => res = .bool ((y1068.client == (c : Int)) && (y1068.req == (r : Int))) ∧ Below w1051.heap.size w1051 xw) rfl rfl rfl (by kernel_rfl) (by kernel_rfl) (Try.call12 _ _) (ritemTwins_any y1068.client y1068.req y1068.ops y1068.ts c r v ts w1051 ) (by rintro e x ⟨rfl, hb1081⟩; exact ⟨_, rfl, ⟨rfl, hb1081⟩⟩)) ?_ ?_; clear h1078
         ·
          rintro _ w1080 ⟨rfl, hb1081⟩
          have hz1082 := hb1081.size
          have hB1083 := fbU_call hB1059 hb1081
          have hk1084 := hk1060.below hb1081
          have hk1085 := hk1061.below hb1081
          have hr1086 := row_kept_new hr1062 (below_grown hb1081)
          exact ⟨hB1083, hk1084, hk1085, hr1086⟩
         rintro _ w1080 a1079 ⟨rfl, hb1081⟩ h1079
         have hz1082 := hb1081.size
         refine dr_done (by kernel_rfl) ?_
         refine co_then ?_
         have hB1084 := fbU_call hB1059 hb1081
         cases hc1083 : (((y1068.client == (c : Int)) && (y1068.req == (r : Int))))
         ·
          rw [hc1083] at h1079
          have hp1085 : ¬ (y1068.client = c ∧ y1068.req = r) := by first | simpa using hc1083 | simpa [and_assoc] using hc1083
          clear hc1083
          refine co_false h1079 rfl ?_
          refine wp_skip ?_
          refine co_blockN ?_
          refine co_then ?_
          refine co_reg ?_
          refine pk0 (v := .int .i64 ((k : Nat) : Int)) h1079 rfl fun a1086 h1086 => ?_; clear h1079
          refine pk (v := .int .i64 ((k + 1 : Nat) : Int)) h1086 rfl (rn_arith' rfl rfl rfl rfl rfl rfl (IntWalk.i64_in _ (by omega)) (by omega)) fun a1087 h1087 => ?_; clear h1086
          refine pk0 (v := .int .i64 ((k + 1 : Nat) : Int)) h1087 rfl fun a1088 h1088 => ?_; clear h1087
          refine pl_nil ?_
          refine co_then ?_
          refine ⟨(j - (k + 1)), by omega, ?_⟩
          have hfn' := findN_next (by assumption : findN (X.take k) (c, r) = none) hy1068 (nmE_n (by assumption))
          have hr1089 := row_kept_new hr1062 (below_grown hb1081)
          have hE1090 := hE1070.new (below_grown hb1081)
          have hk1091 := hk1060.below hb1081
          have hk1092 := hk1061.below hb1081
          exact ⟨k + 1, h1088.sub ⟨rfl, rfl, rfl, rfl, trivial⟩, rfl, by omega, by first | exact findN_nil _ | exact hfn', hr1089, hE1090, hB1084, hk1091, hk1092⟩
         ·
          rw [hc1083] at h1079
          have hp1093 : y1068.client = c ∧ y1068.req = r := by first | simpa using hc1083 | simpa [and_assoc] using hc1083
          clear hc1083
          refine co_true h1079 rfl ?_
          refine co_seq ?_
          refine co_reg ?_
          refine pk0 (v := .int .i64 18) h1079 rfl fun a1094 h1094 => ?_; clear h1079
          refine pl_nil ?_
          refine co_then ?_
          refine wp_ret ?_
          refine co_blockR ?_
          refine co_thenR ?_
          refine co_thenR ?_
          refine co_blockR ?_
          refine co_thenR ?_
          refine co_ret1 h1094 rfl rfl ?_
          have hr1095 := row_kept_new hr1062 (below_grown hb1081)
          have hE1096 := hE1070.new (below_grown hb1081)
          have hk1097 := hk1060.below hb1081
          have hE : setE X (j : Int) c r l ts = 18 := setE_h (by omega) (by omega) (by omega) (findN_hit (i := ((j : Int) : Int).toNat) hy1068 (nmE_y (by assumption)) (by omega))
          exact ⟨_, _, ret_int hE.symm, ⟨hk1097, hr1095, hE1096, hO.sb, hO.su, hO.len⟩, by rw [setL_no (by rw [hE]; omega)], hB1084⟩
     ·
      rw [hc74] at h73
      have hp1098 : ((j : Nat) : Int) ≥ 100 := of_decide_eq_true hc74
      clear hc74
      refine co_true h73 rfl ?_
      refine co_seq ?_
      refine co_reg ?_
      refine pk0 (v := .int .i64 6) h73 rfl fun a1099 h1099 => ?_; clear h73
      refine pl_nil ?_
      refine co_then ?_
      refine wp_ret ?_
      refine co_thenR ?_
      refine co_ret1 h1099 rfl rfl ?_
      have hr1100 := row_kept_new hr52 (below_grown hb62)
      have hk1101 := hk50.below hb62
      have hE : setE X (j : Int) c r l ts = 6 := setE_c (by omega) (by omega) (by omega)
      exact ⟨_, _, ret_int hE.symm, ⟨hk1101, hr1100, hE70, hO.sb, hO.su, hO.len⟩, by rw [setL_no (by rw [hE]; omega)], hB68⟩
    ·
     rw [hc67] at h66
     have hp1102 : chkB c r l ≠ 0 := by first | simpa using hc67 | simpa [and_assoc] using hc67
     clear hc67
     refine co_true h66 rfl ?_
     refine co_seq ?_
     refine co_reg ?_
     refine pk0 (v := .int .i64 (chkB c r l)) h66 rfl fun a1103 h1103 => ?_; clear h66
     refine pk0 (v := .int .i64 (chkB c r l)) h1103 rfl fun a1104 h1104 => ?_; clear h1103
     refine pl_nil ?_
     refine co_then ?_
     refine wp_ret ?_
     refine co_thenR ?_
     refine co_ret1 h1104 rfl rfl ?_
     have hr1105 := row_kept_new hr52 (below_grown hb62)
     have hk1106 := hk50.below hb62
     have hE : setE X (j : Int) c r l ts = chkB c r l := setE_b (by omega) (by omega)
     exact ⟨_, _, ret_int hE.symm, ⟨hk1106, hr1105, hE70, hO.sb, hO.su, hO.len⟩, by rw [setL_no (by rw [hE]; omega)], hB68⟩
   ·
    rw [hc56] at h55
    have hp1107 : ((j : Nat) : Int) > ((X.length : Nat) : Int) := of_decide_eq_true hc56
    clear hc56
    refine co_true h55 rfl ?_
    refine co_seq ?_
    refine co_reg ?_
    refine pk0 (v := .int .i64 1) h55 rfl fun a1108 h1108 => ?_; clear h55
    refine pl_nil ?_
    refine co_then ?_
    refine wp_ret ?_
    refine co_thenR ?_
    refine co_ret1 h1108 rfl rfl ?_
    have hE1109 := hO.ents.new hg34
    have hE : setE X (j : Int) c r l ts = 1 := setE_a (by omega)
    exact ⟨_, _, ret_int hE.symm, ⟨hk50, hr52, hE1109, hO.sb, hO.su, hO.len⟩, by rw [setL_no (by rw [hE]; omega)], hB57⟩
end Go.Proofs.Ytniojcnkjehflaa

/- The document's log: what a later entry hides. Conditions: at most 100 entries, 20 operations each. -/
namespace Go.Proofs.Ytniojcnkjehflaa
open Go.RowKit Go.PlainAid
set_option linter.unusedVariables false


section
variable {X Mk : List EntT} {h n : Int} {i j M : Nat} {y z : EntT} {k : ByteArray} {l : List OpT} {o : OpT} {q : Nat}
theorem cntK_step (ho : l[q]? = some o) (hne : ¬ o.1 = k) (h0 : cntK k (l.take q) = 0) : cntK k (l.take (q + 1)) = 0 := by
  have h1 : (l.take q).countP (fun o => decide (o.1 = k)) = 0 := by unfold cntK at h0; omega
  rw [takeE ho]; unfold cntK; rw [List.countP_append, h1]; simp [hne]
theorem cntK_hit (ho : l[q]? = some o) (he : o.1 = k) : 0 < cntK k l := by
  unfold cntK
  have : 0 < l.countP fun x => decide (x.1 = k) := List.countP_pos_iff.2 ⟨o, List.mem_of_getElem? ho, by simpa using he⟩
  omega
theorem thM_le (X : List EntT) (n : Int) : thM X n ≤ X.length := by unfold thM; split; simp; split <;> omega
theorem thM_lt (hi : (i : Int) < (X.length : Int)) (hn : (i : Int) < n) : i < thM X n := by unfold thM; rw [if_neg (show ¬ n < 0 by omega)]; split <;> omega
theorem thM_ge (hi : ¬ ((i : Int) < (X.length : Int)) ∨ ¬ ((i : Int) < n)) : thM X n ≤ i := by unfold thM; split; simp; split <;> omega
theorem drop_M (hi : i < M) (hy : X[i]? = some y) : (X.take M).drop i = y :: (X.take M).drop (i + 1) := dropE (by rw [List.getElem?_take, if_pos hi]; exact hy)
/-- What later tells. -/
def latB (X : List EntT) (i : Nat) (k : ByteArray) (h n : Int) : Bool := decide (fT h ((X.take (thM X n)).drop (i + 1)) k ≠ 0)
def LatI (X : List EntT) (i : Nat) (k : ByteArray) (h n : Int) (j : Nat) : Prop := fT h ((X.take (thM X n)).drop (i + 1)) k = fT h ((X.take (thM X n)).drop j) k
theorem lat_no (hI : LatI X i k h n j) (hy : X[j]? = some y) (hj : j < thM X n) (hq : ltE h y = false) : LatI X i k h n (j + 1) := by
  unfold LatI at hI ⊢; rw [hI, drop_M hj hy, fT, if_neg (by rw [hq]; simp)]
theorem lat_none (hI : LatI X i k h n j) (hy : X[j]? = some y) (hj : j < thM X n) (h0 : cntK k (y.opl.take q) = 0) (hq : y.opl.length ≤ q) : LatI X i k h n (j + 1) := by
  rw [List.take_of_length_le hq] at h0
  unfold LatI at hI ⊢; rw [hI, drop_M hj hy, fT]; split <;> omega
theorem lat_hit (h20 : ∀ e ∈ X, e.opl.length ≤ 20) (hI : LatI X i k h n j) (hy : X[j]? = some y) (hj : j < thM X n) (hq : ltE h y = true) (ho : y.opl[q]? = some o) (he : o.1 = k) : true = latB X i k h n := by
  unfold LatI at hI; unfold latB
  rw [hI, drop_M hj hy, fT, if_pos hq]
  have h1 := cntK_hit ho he
  have h2 := fT_nn h k ((X.take (thM X n)).drop (j + 1)) (drop_all20 h20)
  symm; exact decide_eq_true (by omega)
theorem lat_end (hI : LatI X i k h n j) (hj : thM X n ≤ j) : false = latB X i k h n := by
  unfold LatI at hI; unfold latB
  rw [hI, List.drop_eq_nil_of_le (by rw [List.length_take]; omega)]; rfl
/-- The entries behind i rounds of the document's Thin. -/
def rtS (X : List EntT) (h : Int) (M i : Nat) : List EntT := (lT h (X.take M)).take i ++ X.drop i
theorem rtS_0 : rtS X h M 0 = X := by simp [rtS]
theorem lT_at : ∀ {T : List EntT} {i : Nat} {y : EntT}, T[i]? = some y → (lT h T)[i]? = some (if ltE h y = true then { y with opl := kpL (fT h (T.drop (i + 1))) y.opl } else y)
  | [], i, y, hy => by simp at hy
  | e :: r, 0, y, hy => by simp at hy; subst hy; simp [lT]
  | e :: r, i + 1, y, hy => by simp at hy; simp only [lT, List.getElem?_cons_succ, List.drop_succ_cons]; exact lT_at hy
theorem rtS_i (hM : i < M) (hy : X[i]? = some z) : (rtS X h M i)[i]? = some z := by
  unfold rtS
  have hl : i < X.length := (List.getElem?_eq_some_iff.1 hy).1
  rw [List.getElem?_append_right (by rw [List.length_take, lT_len, List.length_take]; omega)]
  rw [List.length_take, lT_len, List.length_take, List.getElem?_drop, show i + (i - min i (min M X.length)) = i by omega]; exact hy
theorem rt_z (hLk : Mk.map e0 = (rtS X h M i).map e0) (hM : i < M) (hX : i < X.length) (hy : Mk[i]? = some y) : ∃ z, X[i]? = some z ∧ e0 z = e0 y := by
  obtain ⟨z, h1, h2⟩ := e0_at hLk hy
  refine ⟨z, ?_, h2⟩
  have := rtS_i (X := X) (h := h) hM (List.getElem?_eq_getElem hX)
  rw [h1] at this
  rw [List.getElem?_eq_getElem hX]; exact this.symm
theorem rt_len (hLk : Mk.map e0 = (rtS X h M i).map e0) (hM : i ≤ M) (hX : M ≤ X.length) : Mk.length = X.length := by
  have := e0_len hLk
  rw [this]; unfold rtS
  rw [List.length_append, List.length_take, lT_len, List.length_take, List.length_drop]; omega
theorem take_lT (hz : X[i]? = some z) (hM : i < M) : (lT h (X.take M)).take (i + 1) = (lT h (X.take M)).take i ++ [if ltE h z = true then { z with opl := kpL (fT h ((X.take M).drop (i + 1))) z.opl } else z] := takeE (lT_at (by rw [List.getElem?_take, if_pos hM]; exact hz))
theorem rt_no (hLk : Mk.map e0 = (rtS X h M i).map e0) (hM : i < M) (hX : i < X.length) (hy : Mk[i]? = some y) (hq : ltE h y = false) : Mk.map e0 = (rtS X h M (i + 1)).map e0 := by
  obtain ⟨z, h1, h2⟩ := rt_z hLk hM hX hy
  rw [hLk]; unfold rtS
  rw [take_lT h1 hM, if_neg (by rw [ltE_e0 h2, hq]; simp), dropE h1]; simp
theorem rt_yes {y' : EntT} (hLk : Mk.map e0 = (rtS X h M i).map e0) (hM : i < M) (hX : i < X.length) (hy : Mk[i]? = some y) (hq : ltE h y = true) (e : e0 y' = e0 { y with opl := kpL (fT h ((X.take M).drop (i + 1))) y.opl }) : (Mk.set i y').map e0 = (rtS X h M (i + 1)).map e0 := by
  obtain ⟨z, h1, h2⟩ := rt_z hLk hM hX hy
  obtain ⟨k1, k2, k3, k4⟩ := e0_ts h2
  rw [List.map_set, hLk, e]; unfold rtS
  rw [take_lT h1 hM, if_pos (by rw [ltE_e0 h2, hq]), dropE h1]
  have hl : ((lT h (X.take M)).take i).length = i := by rw [List.length_take, lT_len, List.length_take]; omega
  simp only [List.map_append, List.map_cons, List.map_nil, List.append_assoc, List.singleton_append]
  rw [List.set_append_right _ _ (by rw [List.length_map, hl]; omega), List.length_map, hl, Nat.sub_self, List.set_cons_zero]
  congr 2
  unfold e0; simp [k1, k2, k3, k4]
def rgD (X : List EntT) (h : Int) (M i : Nat) : Int := gT h (X.take M) - gT h ((X.take M).drop i)
theorem rgD_0 : (0 : Int) = rgD X h M 0 := by simp [rgD]
theorem rgD_no (hLk : Mk.map e0 = (rtS X h M i).map e0) (hM : i < M) (hX : i < X.length) (hy : Mk[i]? = some y) (hq : ltE h y = false) : rgD X h M i = rgD X h M (i + 1) := by
  obtain ⟨z, h1, h2⟩ := rt_z hLk hM hX hy
  unfold rgD; rw [drop_M hM h1, gT, if_neg (by rw [ltE_e0 h2, hq]; simp)]
theorem rgD_yes (hLk : Mk.map e0 = (rtS X h M i).map e0) (hM : i < M) (hX : i < X.length) (hy : Mk[i]? = some y) (hq : ltE h y = true) (hl : y.opl.length ≤ q) (hle : q ≤ y.opl.length) : rgD X h M i + ((q : Int) - ((kpL (fT h ((X.take M).drop (i + 1))) (y.opl.take q)).length : Int)) = rgD X h M (i + 1) := by
  obtain ⟨z, h1, h2⟩ := rt_z hLk hM hX hy
  unfold rgD; rw [drop_M hM h1, gT, if_pos (by rw [ltE_e0 h2, hq]), List.take_of_length_le hl, (e0_ts h2).2.2.2]
  have : q = y.opl.length := by omega
  rw [this]; omega
theorem rgD_end (hM : M ≤ i) : rgD X h M i = gT h (X.take M) := by unfold rgD; rw [List.drop_eq_nil_of_le (by rw [List.length_take]; omega)]; simp [gT]
theorem rgD_nn (h20 : ∀ e ∈ X, e.opl.length ≤ 20) (hX : X.length ≤ 100) : -2000 ≤ rgD X h M i ∧ rgD X h M i ≤ 2000 := by
  have h1 := gT_nn h (X.take M) (fun e he => h20 e (List.mem_of_mem_take he))
  have h2 := gT_nn h ((X.take M).drop i) (drop_all20 h20)
  unfold rgD; rw [List.length_take] at h1; rw [List.length_drop, List.length_take] at h2; omega
theorem rt_end (hM : M ≤ X.length) : rtS X h M M = lT h (X.take M) ++ X.drop M := by unfold rtS; rw [List.take_of_length_le (by rw [lT_len, List.length_take]; omega)]
theorem kq_yes {f : ByteArray → Int} (ho : l[q]? = some o) (hb : decide (f o.1 ≠ 0) = false) : kpL f (l.take q) ++ [o] = kpL f (l.take (q + 1)) := by
  rw [takeE ho]; unfold kpL; rw [List.filter_append]
  have : f o.1 = 0 := by simpa using hb
  simp [this]
theorem kq_no {f : ByteArray → Int} (ho : l[q]? = some o) (hb : decide (f o.1 ≠ 0) = true) : kpL f (l.take q) = kpL f (l.take (q + 1)) := by
  rw [takeE ho]; unfold kpL; rw [List.filter_append]
  have : ¬ f o.1 = 0 := by simpa using hb
  simp [this]
theorem kq_yes_len {f : ByteArray → Int} (ho : l[q]? = some o) (hb : decide (f o.1 ≠ 0) = false) : (kpL f (l.take (q + 1))).length = (kpL f (l.take q)).length + 1 := by rw [← kq_yes ho hb]; simp
theorem kq_no_len {f : ByteArray → Int} (ho : l[q]? = some o) (hb : decide (f o.1 ≠ 0) = true) : (kpL f (l.take (q + 1))).length = (kpL f (l.take q)).length := by rw [← kq_no ho hb]
end


theorem kl_len (x : ByteArray) : x.data.toList.length = x.size := by simp
theorem kl_loop (bs : ByteArray) : ∀ (k i : Nat) (r : List UInt8), bs.size - i = k → ByteArray.toList.loop bs i r = r.reverse ++ bs.data.toList.drop i
  | 0, i, r, h => by
    unfold ByteArray.toList.loop
    rw [if_neg (by omega), List.drop_of_length_le (by rw [kl_len]; omega), List.append_nil]
  | k + 1, i, r, h => by
    unfold ByteArray.toList.loop
    have hi : i < bs.size := by omega
    have hl : i < bs.data.toList.length := by rw [kl_len]; exact hi
    rw [if_pos hi, kl_loop bs k (i + 1) _ (by omega), List.reverse_cons, List.append_assoc, List.drop_eq_getElem_cons hl]
    congr 2
    simp [ByteArray.get!, hi]
theorem kl_data (bs : ByteArray) : bs.toList = bs.data.toList := by
  unfold ByteArray.toList
  rw [kl_loop bs bs.size 0 [] rfl]
  simp
theorem eq_key {a b : ByteArray} (h : (a.toList == b.toList) = true) : a = b := by
  have h1 : a.toList = b.toList := by simpa using h
  rw [kl_data, kl_data] at h1
  exact ByteArray.ext (Array.toList_inj.1 h1)
theorem ne_key {a b : ByteArray} (h : (a.toList == b.toList) = false) : ¬ a = b := fun e => by subst e; simp at h

set_option maxRecDepth 100000 in
theorem rLater_any (b : Nat) (u : Value) (l : List EntT) (i : Nat) (k : ByteArray) (h : Int) (n : Int) (w : World) (hD : Blk w b 31 #[u]) (hs : SliceOf entE 4 w u l) (hok : ∀ z ∈ l, EntOk w z) (hl20 : ∀ z ∈ l, z.opl.length ≤ 20) (hlen : l.length ≤ 100) (hi : i < thM l n) (hh : 0 ≤ h ∧ h < 18446744073709551616) (hni : -9223372036854775808 ≤ n ∧ n ≤ 9223372036854775807) :
    Calls Try.prog 64 #[pt b 0, .int .i64 ((i : Nat) : Int), .string k, .int .u64 h, .int .i64 n] w fun e w' => e = .returned (.bool (latB l i k h n)) ∧ Below w.heap.size w w' := by
 have hML := thM_le l n
 have hB0 := Below.refl w.heap.size w
 have hl_hD := hD.lt
 have hl_hs := sl_len hs
 refine co_enter (n := 79) Try.func64 rfl rfl rfl [(0, pt b 0), (1, .int .i64 ((i : Nat) : Int)), (2, .string k), (3, .int .u64 h), (4, .int .i64 n)] rfl (fun a h0 => ?_)
 refine co_seq ?_
 refine co_reg ?_
 refine pk0 (v := .bool false) h0 rfl fun a1 h1 => ?_; clear h0
 refine pl_nil ?_
 refine co_then ?_
 refine co_seq ?_
 refine co_seq ?_
 refine co_reg ?_
 refine pk0 (v := .int .i64 ((i : Nat) : Int)) h1 rfl fun a2 h2 => ?_; clear h1
 refine pk (v := .int .i64 ((i + 1 : Nat) : Int)) h2 rfl (rn_arith' rfl rfl rfl rfl rfl rfl (IntWalk.i64_in _ (by omega)) (by omega)) fun a3 h3 => ?_; clear h2
 refine pk0 (v := .int .i64 ((i + 1 : Nat) : Int)) h3 rfl fun a4 h4 => ?_; clear h3
 refine pl_nil ?_
 refine co_then ?_
 refine wp_block ?_
 have h5 : Slots 79 [(0, pt b 0), (2, .string k), (3, .int .u64 h), (4, .int .i64 n), (11, .int .i64 ((i + 1 : Nat) : Int))] _ := h4.sub ⟨rfl, rfl, rfl, rfl, rfl, trivial⟩; clear h4
 refine co_loop (fun mm a x => ∃ (j : Nat), Slots 79 [(0, pt b 0), (2, .string k), (3, .int .u64 h), (4, .int .i64 n), (11, .int .i64 ((j : Nat) : Int))] a ∧ mm = l.length - j ∧ (j ≤ thM l n) ∧ (LatI l i k h n j) ∧ Below w.heap.size w x ∧ Blk x b 31 #[u]) (l.length - (i + 1)) ?_ ?_
 · exact ⟨(i + 1), h5.sub ⟨rfl, rfl, rfl, rfl, rfl, trivial⟩, rfl, by omega, by first | rfl | exact hI', hB0, hD⟩
 · rintro k6 a7 w8 ⟨j, h7, rfl, hi9, hi10, hB11, hk12⟩
   have hz13 := hB11.size
   have hl14 := hk12.lt
   have hI : LatI l i k h n j := by assumption
   have hML := thM_le l n
   refine co_seq ?_
   refine co_seq ?_
   refine co_reg ?_
   refine pk0 (v := .int .i64 ((j : Nat) : Int)) h7 rfl fun a15 h15 => ?_; clear h7
   refine pk0 (v := pt b 0) h15 rfl fun a16 h16 => ?_; clear h15
   refine pk0 (v := pt b 0) h16 rfl fun a17 h17 => ?_; clear h16
   refine pk0 (v := pt b 0) h17 rfl fun a18 h18 => ?_; clear h17
   refine pk (v := u) h18 rfl (rn_load1 rfl rfl Try.isAgg29 (hk12.cell rfl)) fun a19 h19 => ?_; clear h18
   refine pk (v := .int .i64 ((l.length : Nat) : Int)) h19 rfl (rn_len rfl rfl Try.underlying29 (hs.below hB11)) fun a20 h20 => ?_; clear h19
   refine pk0 (v := .bool (decide (((j : Nat) : Int) < ((l.length : Nat) : Int)))) h20 rfl fun a21 h21 => ?_; clear h20
   refine pk0 (v := .bool (decide (((j : Nat) : Int) < ((l.length : Nat) : Int)))) h21 rfl fun a22 h22 => ?_; clear h21
   cases hc23 : (decide (((j : Nat) : Int) < ((l.length : Nat) : Int)))
   ·
    rw [hc23] at h22
    have hp24 : ¬ (((j : Nat) : Int) < ((l.length : Nat) : Int)) := of_decide_eq_false hc23
    clear hc23
    refine psk h22 rfl fun a25 h25 => ?_; clear h22
    refine psk h25 rfl fun a26 h26 => ?_; clear h25
    refine psk h26 rfl fun a27 h27 => ?_; clear h26
    refine pk0 (v := .bool false) h27 rfl fun a28 h28 => ?_; clear h27
    refine pl_nil ?_
    refine co_then ?_
    refine co_false h28 rfl ?_
    refine wp_exit ?_
    refine co_thenX ?_
    refine co_thenX ?_
    refine co_blockX ?_
    refine co_then ?_
    refine co_seq ?_
    refine co_reg ?_
    refine pk0 (v := .bool false) h28 rfl fun a29 h29 => ?_; clear h28
    refine pl_nil ?_
    refine co_then ?_
    refine wp_ret ?_
    refine co_ret1 h29 rfl rfl ?_
    exact ⟨ret_bool (lat_end hI (thM_ge (by omega))), hB11⟩
   ·
    rw [hc23] at h22
    have hp30 : ((j : Nat) : Int) < ((l.length : Nat) : Int) := of_decide_eq_true hc23
    clear hc23
    refine pk0 (v := .int .i64 ((j : Nat) : Int)) h22 rfl fun a31 h31 => ?_; clear h22
    refine pk0 (v := .int .i64 n) h31 rfl fun a32 h32 => ?_; clear h31
    refine pk0 (v := .bool (decide (((j : Nat) : Int) < n))) h32 rfl fun a33 h33 => ?_; clear h32
    refine pk0 (v := .bool (decide (((j : Nat) : Int) < n))) h33 rfl fun a34 h34 => ?_; clear h33
    refine pl_nil ?_
    refine co_then ?_
    cases hc35 : (decide (((j : Nat) : Int) < n))
    ·
     rw [hc35] at h34
     have hp36 : ¬ (((j : Nat) : Int) < n) := of_decide_eq_false hc35
     clear hc35
     refine co_false h34 rfl ?_
     refine wp_exit ?_
     refine co_thenX ?_
     refine co_thenX ?_
     refine co_blockX ?_
     refine co_then ?_
     refine co_seq ?_
     refine co_reg ?_
     refine pk0 (v := .bool false) h34 rfl fun a37 h37 => ?_; clear h34
     refine pl_nil ?_
     refine co_then ?_
     refine wp_ret ?_
     refine co_ret1 h37 rfl rfl ?_
     exact ⟨ret_bool (lat_end hI (thM_ge (by omega))), hB11⟩
    ·
     rw [hc35] at h34
     have hp38 : ((j : Nat) : Int) < n := of_decide_eq_true hc35
     clear hc35
     refine co_true h34 rfl ?_
     refine wp_skip ?_
     refine co_then ?_
     refine co_seq ?_
     refine wp_block ?_
     refine co_seq ?_
     refine co_seq ?_
     refine co_reg ?_
     refine pk0 (v := pt b 0) h34 rfl fun a39 h39 => ?_; clear h34
     refine pk0 (v := pt b 0) h39 rfl fun a40 h40 => ?_; clear h39
     refine pk0 (v := pt b 0) h40 rfl fun a41 h41 => ?_; clear h40
     refine pk (v := u) h41 rfl (rn_load1 rfl rfl Try.isAgg29 (hk12.cell rfl)) fun a42 h42 => ?_; clear h41
     refine pk0 (v := .int .i64 ((j : Nat) : Int)) h42 rfl fun a43 h43 => ?_; clear h42
     obtain ⟨y44, hy44⟩ : ∃ z, l[j]? = some z := ⟨_, List.getElem?_eq_getElem (by first | omega | (simp; done) | (simp; omega))⟩
     have oky44 := hok _ (List.mem_of_getElem? hy44)
     have k45 : 0 ≤ y44.ts := oky44.ts0
     have k46 : y44.ts < 18446744073709551616 := oky44.ts1
     have h20y44 := hl20 y44 (List.mem_of_getElem? hy44)
     refine pk (v := pt (blkOf u) (offOf u + j * 4)) h43 rfl (rn_index rfl rfl rfl Try.underlying29 Try.sizeOf37 (hs.below hB11) (by omega) (by first | omega | (simp; done) | (simp; omega))) fun a47 h47 => ?_; clear h43
     refine pk0 (v := pt (blkOf u) (offOf u + j * 4 + 3)) h47 rfl fun a48 h48 => ?_; clear h47
     refine pk (v := .int .u64 y44.ts) h48 rfl (rn_load1 rfl rfl Try.isAgg23 ((sl_at (hs.below hB11) hy44) 3 _ rfl)) fun a49 h49 => ?_; clear h48
     refine pk0 (v := .bool (y44.ts == 0)) h49 rfl fun a50 h50 => ?_; clear h49
     refine pk0 (v := .bool (y44.ts == 0)) h50 rfl fun a51 h51 => ?_; clear h50
     cases hc52 : (y44.ts == 0)
     ·
      rw [hc52] at h51
      have hp53 : ¬ (y44.ts = 0) := by first | simpa using hc52 | simpa [and_assoc] using hc52
      clear hc52
      refine pk0 (v := pt b 0) h51 rfl fun a54 h54 => ?_; clear h51
      refine pk0 (v := pt b 0) h54 rfl fun a55 h55 => ?_; clear h54
      refine pk0 (v := pt b 0) h55 rfl fun a56 h56 => ?_; clear h55
      refine pk (v := u) h56 rfl (rn_load1 rfl rfl Try.isAgg29 (hk12.cell rfl)) fun a57 h57 => ?_; clear h56
      refine pk0 (v := .int .i64 ((j : Nat) : Int)) h57 rfl fun a58 h58 => ?_; clear h57
      refine pk (v := pt (blkOf u) (offOf u + j * 4)) h58 rfl (rn_index rfl rfl rfl Try.underlying29 Try.sizeOf37 (hs.below hB11) (by omega) (by first | omega | (simp; done) | (simp; omega))) fun a59 h59 => ?_; clear h58
      refine pk0 (v := pt (blkOf u) (offOf u + j * 4 + 3)) h59 rfl fun a60 h60 => ?_; clear h59
      refine pk (v := .int .u64 y44.ts) h60 rfl (rn_load1 rfl rfl Try.isAgg23 ((sl_at (hs.below hB11) hy44) 3 _ rfl)) fun a61 h61 => ?_; clear h60
      refine pk0 (v := .int .u64 h) h61 rfl fun a62 h62 => ?_; clear h61
      refine pk0 (v := .bool (decide (y44.ts > h))) h62 rfl fun a63 h63 => ?_; clear h62
      refine pk0 (v := .bool (decide (y44.ts > h))) h63 rfl fun a64 h64 => ?_; clear h63
      refine pl_nil ?_
      refine co_then ?_
      cases hc65 : (decide (y44.ts > h))
      ·
       rw [hc65] at h64
       have hp66 : ¬ (y44.ts > h) := of_decide_eq_false hc65
       clear hc65
       refine co_false h64 rfl ?_
       refine wp_skip ?_
       refine co_then ?_
       refine co_seq ?_
       refine co_reg ?_
       refine pk0 (v := .int .i64 0) h64 rfl fun a67 h67 => ?_; clear h64
       refine pl_nil ?_
       refine co_then ?_
       refine wp_block ?_
       have hjM := thM_lt (X := l) (n := n) (i := j) (by omega) (by omega)
       have h68 : Slots 79 [(0, pt b 0), (2, .string k), (3, .int .u64 h), (4, .int .i64 n), (11, .int .i64 ((j : Nat) : Int)), (12, .int .i64 0)] _ := h67.sub ⟨rfl, rfl, rfl, rfl, rfl, rfl, trivial⟩; clear h67
       refine co_loop (fun mm a x => ∃ (q : Nat), Slots 79 [(0, pt b 0), (2, .string k), (3, .int .u64 h), (4, .int .i64 n), (11, .int .i64 ((j : Nat) : Int)), (12, .int .i64 ((q : Nat) : Int))] a ∧ mm = y44.opl.length - q ∧ (q ≤ y44.opl.length) ∧ (cntK k (y44.opl.take q) = 0) ∧ Below w.heap.size w x ∧ Blk x b 31 #[u]) (y44.opl.length - 0) ?_ ?_
       · exact ⟨0, h68.sub ⟨rfl, rfl, rfl, rfl, rfl, (slot_eq rfl (congrArg (Value.int .i64) (by first | rfl | omega))), trivial⟩, rfl, by omega, by first | exact hc' | rfl, hB11, hk12⟩
       · rintro k69 a70 w71 ⟨q, h70, rfl, hi72, hi73, hB74, hk75⟩
         have hz76 := hB74.size
         have hl77 := hk75.lt
         refine co_seq ?_
         refine co_seq ?_
         refine co_reg ?_
         refine pk0 (v := .int .i64 ((q : Nat) : Int)) h70 rfl fun a78 h78 => ?_; clear h70
         refine pk0 (v := pt b 0) h78 rfl fun a79 h79 => ?_; clear h78
         refine pk0 (v := pt b 0) h79 rfl fun a80 h80 => ?_; clear h79
         refine pk0 (v := pt b 0) h80 rfl fun a81 h81 => ?_; clear h80
         refine pk (v := u) h81 rfl (rn_load1 rfl rfl Try.isAgg29 (hk75.cell rfl)) fun a82 h82 => ?_; clear h81
         refine pk0 (v := .int .i64 ((j : Nat) : Int)) h82 rfl fun a83 h83 => ?_; clear h82
         refine pk (v := pt (blkOf u) (offOf u + j * 4)) h83 rfl (rn_index rfl rfl rfl Try.underlying29 Try.sizeOf37 (hs.below hB74) (by omega) (by first | omega | (simp; done) | (simp; omega))) fun a84 h84 => ?_; clear h83
         refine pk0 (v := pt (blkOf u) (offOf u + j * 4)) h84 rfl fun a85 h85 => ?_; clear h84
         refine pk0 (v := pt (blkOf u) (offOf u + j * 4 + 2)) h85 rfl fun a86 h86 => ?_; clear h85
         refine pk (v := y44.ops) h86 rfl (rn_load1 rfl rfl Try.isAgg33 ((sl_at (hs.below hB74) hy44) 2 _ rfl)) fun a87 h87 => ?_; clear h86
         refine pk (v := .int .i64 ((y44.opl.length : Nat) : Int)) h87 rfl (rn_len rfl rfl Try.underlying33 (oky44.ops.below hB74)) fun a88 h88 => ?_; clear h87
         refine pk0 (v := .bool (decide (((q : Nat) : Int) < ((y44.opl.length : Nat) : Int)))) h88 rfl fun a89 h89 => ?_; clear h88
         refine pl_nil ?_
         refine co_then ?_
         cases hc90 : (decide (((q : Nat) : Int) < ((y44.opl.length : Nat) : Int)))
         ·
          rw [hc90] at h89
          have hp91 : ¬ (((q : Nat) : Int) < ((y44.opl.length : Nat) : Int)) := of_decide_eq_false hc90
          clear hc90
          refine co_false h89 rfl ?_
          refine wp_exit ?_
          refine co_thenX ?_
          refine co_thenX ?_
          refine co_blockX ?_
          refine co_blockN ?_
          refine co_then ?_
          refine co_reg ?_
          refine pk0 (v := .int .i64 ((j : Nat) : Int)) h89 rfl fun a92 h92 => ?_; clear h89
          refine pk (v := .int .i64 ((j + 1 : Nat) : Int)) h92 rfl (rn_arith' rfl rfl rfl rfl rfl rfl (IntWalk.i64_in _ (by omega)) (by omega)) fun a93 h93 => ?_; clear h92
          refine pk0 (v := .int .i64 ((j + 1 : Nat) : Int)) h93 rfl fun a94 h94 => ?_; clear h93
          refine pl_nil ?_
          refine co_then ?_
          refine ⟨(l.length - (j + 1)), by omega, ?_⟩
          have hI' := lat_none hI hy44 (by omega) (by assumption : cntK k (y44.opl.take q) = 0) (by omega)
          exact ⟨j + 1, h94.sub ⟨rfl, rfl, rfl, rfl, rfl, trivial⟩, rfl, by omega, by first | rfl | exact hI', hB74, hk75⟩
         ·
          rw [hc90] at h89
          have hp95 : ((q : Nat) : Int) < ((y44.opl.length : Nat) : Int) := of_decide_eq_true hc90
          clear hc90
          refine co_true h89 rfl ?_
          refine wp_skip ?_
          refine co_then ?_
          refine co_seq ?_
          refine wp_block ?_
          refine co_seq ?_
          refine co_reg ?_
          refine pk0 (v := pt b 0) h89 rfl fun a96 h96 => ?_; clear h89
          refine pk0 (v := pt b 0) h96 rfl fun a97 h97 => ?_; clear h96
          refine pk0 (v := pt b 0) h97 rfl fun a98 h98 => ?_; clear h97
          refine pk (v := u) h98 rfl (rn_load1 rfl rfl Try.isAgg29 (hk75.cell rfl)) fun a99 h99 => ?_; clear h98
          refine pk0 (v := .int .i64 ((j : Nat) : Int)) h99 rfl fun a100 h100 => ?_; clear h99
          refine pk (v := pt (blkOf u) (offOf u + j * 4)) h100 rfl (rn_index rfl rfl rfl Try.underlying29 Try.sizeOf37 (hs.below hB74) (by omega) (by first | omega | (simp; done) | (simp; omega))) fun a101 h101 => ?_; clear h100
          refine pk0 (v := pt (blkOf u) (offOf u + j * 4)) h101 rfl fun a102 h102 => ?_; clear h101
          refine pk0 (v := pt (blkOf u) (offOf u + j * 4 + 2)) h102 rfl fun a103 h103 => ?_; clear h102
          refine pk (v := y44.ops) h103 rfl (rn_load1 rfl rfl Try.isAgg33 ((sl_at (hs.below hB74) hy44) 2 _ rfl)) fun a104 h104 => ?_; clear h103
          refine pk0 (v := .int .i64 ((q : Nat) : Int)) h104 rfl fun a105 h105 => ?_; clear h104
          obtain ⟨y106, hy106⟩ : ∃ z, y44.opl[q]? = some z := ⟨_, List.getElem?_eq_getElem (by first | omega | (simp; done) | (simp; omega))⟩
          refine pk (v := pt (blkOf (y44.ops)) (offOf (y44.ops) + q * 3)) h105 rfl (rn_index rfl rfl rfl Try.underlying33 Try.sizeOf74 (oky44.ops.below hB74) (by omega) (by first | omega | (simp; done) | (simp; omega))) fun a107 h107 => ?_; clear h105
          refine pk0 (v := pt (blkOf (y44.ops)) (offOf (y44.ops) + q * 3)) h107 rfl fun a108 h108 => ?_; clear h107
          refine pk (v := .string y106.1) h108 rfl (rn_load1 rfl rfl Try.isAgg9 ((sl_at (oky44.ops.below hB74) hy106) 0 _ rfl)) fun a109 h109 => ?_; clear h108
          refine pk0 (v := .string k) h109 rfl fun a110 h110 => ?_; clear h109
          refine pk0 (v := .bool (y106.1.toList == k.toList)) h110 rfl fun a111 h111 => ?_; clear h110
          refine pl_nil ?_
          refine co_then ?_
          cases hc112 : (y106.1.toList == k.toList)
          ·
           rw [hc112] at h111
           refine co_false h111 rfl ?_
           refine wp_skip ?_
           refine co_blockN ?_
           refine co_then ?_
           refine co_reg ?_
           refine pk0 (v := .int .i64 ((q : Nat) : Int)) h111 rfl fun a113 h113 => ?_; clear h111
           refine pk (v := .int .i64 ((q + 1 : Nat) : Int)) h113 rfl (rn_arith' rfl rfl rfl rfl rfl rfl (IntWalk.i64_in _ (by omega)) (by omega)) fun a114 h114 => ?_; clear h113
           refine pk0 (v := .int .i64 ((q + 1 : Nat) : Int)) h114 rfl fun a115 h115 => ?_; clear h114
           refine pl_nil ?_
           refine co_then ?_
           refine ⟨(y44.opl.length - (q + 1)), by omega, ?_⟩
           have hc' := cntK_step (k := k) hy106 (ne_key hc112) (by assumption)
           exact ⟨q + 1, h115.sub ⟨rfl, rfl, rfl, rfl, rfl, rfl, trivial⟩, rfl, by omega, by first | exact hc' | rfl, hB74, hk75⟩
          ·
           rw [hc112] at h111
           refine co_true h111 rfl ?_
           refine co_seq ?_
           refine co_reg ?_
           refine pk0 (v := .bool true) h111 rfl fun a116 h116 => ?_; clear h111
           refine pl_nil ?_
           refine co_then ?_
           refine wp_ret ?_
           refine co_blockR ?_
           refine co_thenR ?_
           refine co_thenR ?_
           refine co_blockR ?_
           refine co_blockR ?_
           refine co_thenR ?_
           refine co_thenR ?_
           refine co_blockR ?_
           refine co_thenR ?_
           refine co_ret1 h116 rfl rfl ?_
           exact ⟨ret_bool (lat_hit hl20 hI hy44 (by omega) (ltE_t (h := h) (by omega) (by omega)) hy106 (eq_key hc112)), hB74⟩
      ·
       rw [hc65] at h64
       have hp117 : y44.ts > h := of_decide_eq_true hc65
       clear hc65
       refine co_true h64 rfl ?_
       refine wp_exit ?_
       refine co_thenX ?_
       refine co_blockX ?_
       refine co_then ?_
       refine co_reg ?_
       refine pk0 (v := .int .i64 ((j : Nat) : Int)) h64 rfl fun a118 h118 => ?_; clear h64
       refine pk (v := .int .i64 ((j + 1 : Nat) : Int)) h118 rfl (rn_arith' rfl rfl rfl rfl rfl rfl (IntWalk.i64_in _ (by omega)) (by omega)) fun a119 h119 => ?_; clear h118
       refine pk0 (v := .int .i64 ((j + 1 : Nat) : Int)) h119 rfl fun a120 h120 => ?_; clear h119
       refine pl_nil ?_
       refine co_then ?_
       refine ⟨(l.length - (j + 1)), by omega, ?_⟩
       have hjM := thM_lt (X := l) (n := n) (i := j) (by omega) (by omega)
       have hI' := lat_no hI hy44 hjM (ltE_f (h := h) (y := y44) (by omega))
       exact ⟨j + 1, h120.sub ⟨rfl, rfl, rfl, rfl, rfl, trivial⟩, rfl, by omega, by first | rfl | exact hI', hB11, hk12⟩
     ·
      rw [hc52] at h51
      have hp121 : y44.ts = 0 := by first | simpa using hc52 | simpa [and_assoc] using hc52
      clear hc52
      refine psk h51 rfl fun a122 h122 => ?_; clear h51
      refine psk h122 rfl fun a123 h123 => ?_; clear h122
      refine psk h123 rfl fun a124 h124 => ?_; clear h123
      refine psk h124 rfl fun a125 h125 => ?_; clear h124
      refine psk h125 rfl fun a126 h126 => ?_; clear h125
      refine psk h126 rfl fun a127 h127 => ?_; clear h126
      refine psk h127 rfl fun a128 h128 => ?_; clear h127
      refine psk h128 rfl fun a129 h129 => ?_; clear h128
      refine psk h129 rfl fun a130 h130 => ?_; clear h129
      refine psk h130 rfl fun a131 h131 => ?_; clear h130
      refine pk0 (v := .bool true) h131 rfl fun a132 h132 => ?_; clear h131
      refine pl_nil ?_
      refine co_then ?_
      refine co_true h132 rfl ?_
      refine wp_exit ?_
      refine co_thenX ?_
      refine co_blockX ?_
      refine co_then ?_
      refine co_reg ?_
      refine pk0 (v := .int .i64 ((j : Nat) : Int)) h132 rfl fun a133 h133 => ?_; clear h132
      refine pk (v := .int .i64 ((j + 1 : Nat) : Int)) h133 rfl (rn_arith' rfl rfl rfl rfl rfl rfl (IntWalk.i64_in _ (by omega)) (by omega)) fun a134 h134 => ?_; clear h133
      refine pk0 (v := .int .i64 ((j + 1 : Nat) : Int)) h134 rfl fun a135 h135 => ?_; clear h134
      refine pl_nil ?_
      refine co_then ?_
      refine ⟨(l.length - (j + 1)), by omega, ?_⟩
      have hjM := thM_lt (X := l) (n := n) (i := j) (by omega) (by omega)
      have hI' := lat_no hI hy44 hjM (ltE_f (h := h) (y := y44) (by omega))
      exact ⟨j + 1, h135.sub ⟨rfl, rfl, rfl, rfl, rfl, trivial⟩, rfl, by omega, by first | rfl | exact hI', hB11, hk12⟩
end Go.Proofs.Ytniojcnkjehflaa

/- The document's log: Thin. Conditions: at most 100 entries, 20 operations each. -/
namespace Go.Proofs.Ytniojcnkjehflaa
open Go.RowKit Go.PlainAid
set_option linter.unusedVariables false

set_option maxRecDepth 100000 in
set_option maxHeartbeats 1600000 in
theorem rThin17_any (w0 : World) (S : Nat → Prop) (b : Nat) (u : Value) (X : List EntT) (h : Int) (n : Int) (w : World) (hbw : But S w0 w) (hO : RgP S w0.heap.size w b u X) (hh : 0 ≤ h ∧ h < 18446744073709551616) (hni : -9223372036854775808 ≤ n ∧ n ≤ 9223372036854775807) :
    Calls Try.prog 38 #[pt b 0, .int .u64 h, .int .i64 n] w fun e w' => ∃ (u' : Value) (X' : List EntT), e = .returned (.int .i64 (thG X h n)) ∧ RgP S w0.heap.size w' b u' X' ∧ X'.map e0 = (thL X h n).map e0 ∧ But (S) w0 w' := by
 have hB0 := hbw
 have hz0 := hbw.size
 have hz0 := hbw.size
 have hl1 := hO.blk.lt; have hln2 := hO.len
 have hML := thM_le X n
 refine co_enter (n := 94) Try.func38 rfl rfl rfl [(0, pt b 0), (1, .int .u64 h), (2, .int .i64 n)] rfl (fun a h0 => ?_)
 refine co_seq ?_
 refine co_reg ?_
 refine pk0 (v := .int .i64 0) h0 rfl fun a3 h3 => ?_; clear h0
 refine pl_nil ?_
 refine co_then ?_
 refine co_seq ?_
 refine co_reg ?_
 refine pk0 (v := .int .i64 0) h3 rfl fun a4 h4 => ?_; clear h3
 refine pl_nil ?_
 refine co_then ?_
 refine co_seq ?_
 refine co_reg ?_
 refine pk0 (v := pt b 0) h4 rfl fun a5 h5 => ?_; clear h4
 refine pk0 (v := pt b 0) h5 rfl fun a6 h6 => ?_; clear h5
 refine pk0 (v := pt b 0) h6 rfl fun a7 h7 => ?_; clear h6
 refine pk (v := u) h7 rfl (rn_load1 rfl rfl Try.isAgg29 (hO.blk.cell rfl)) fun a8 h8 => ?_; clear h7
 refine pw h8 rfl (op_call (args := #[u]) (R := fun res xw => ∃ L2 : List EntT, ∃ u : Value, res = u ∧ xw.ownsRow w.heap.size 37 4 u L2.length (L2.flatMap entE) ∧ EntsK (fun _ => False) w.heap.size xw L2 ∧ L2.map e0 = X.map e0 ∧ Below w.heap.size w xw) rfl rfl rfl (by kernel_rfl) (by kernel_rfl) (Try.call50 _ _) (rcopy17_any u X w (row_sl hO.row entE_len) (entsK_got hO.ents) (fun z hz => (hO.ents z hz).len) hO.len) (by rintro e x ⟨L2, u, rfl, hq13, hq14, hq15, hb16⟩; exact ⟨_, rfl, ⟨L2, u, rfl, hq13, hq14, hq15, hb16⟩⟩)) ?_; clear h8
 rintro u12 w10 a9 ⟨L211, _, rfl, hq13, hq14, hq15, hb16⟩ h9
 have hu17 := row_under hO.row (rfl : w.heap.size = _)
 have hz18 := hb16.size
 have hl19 := sl_len (row_sl hq13 entE_len)
 have hE20 : EntsK S w0.heap.size w10 L211 := EntsK.low hq14 (by omega)
 have hl21 := e0_len hq15
 refine pk0 (v := u12) h9 rfl fun a22 h22 => ?_; clear h9
 refine pl_nil ?_
 refine co_then ?_
 refine co_seq ?_
 refine co_seq ?_
 refine co_reg ?_
 refine pk0 (v := .int .i64 0) h22 rfl fun a23 h23 => ?_; clear h22
 refine pl_nil ?_
 refine co_then ?_
 refine wp_block ?_
 have h24 : Slots 94 [(0, pt b 0), (1, .int .u64 h), (2, .int .i64 n), (7, .int .i64 0), (8, u12), (9, .int .i64 0)] _ := h23.sub ⟨rfl, rfl, rfl, rfl, rfl, rfl, trivial⟩; clear h23
 refine co_loop (fun mm a x => ∃ (i : Nat) (Mk : List EntT), Slots 94 [(0, pt b 0), (1, .int .u64 h), (2, .int .i64 n), (7, .int .i64 (rgD X h (thM X n) i)), (8, u12), (9, .int .i64 ((i : Nat) : Int))] a ∧ mm = X.length - i ∧ (i ≤ thM X n) ∧ (Mk.map e0 = (rtS X h (thM X n) i).map e0) ∧ x.ownsRow w.heap.size 37 4 u12 Mk.length (Mk.flatMap entE) ∧ x.ownsRow 0 37 4 u X.length (X.flatMap entE) ∧ EntsK S w0.heap.size x X ∧ EntsK S w0.heap.size x Mk ∧ But (S) w0 x ∧ Blk x b 31 #[u]) (X.length - 0) ?_ ?_
 have hr25 := row_kept_new hO.row (below_grown hb16)
 have hE26 := hO.ents.new (below_grown hb16)
 have hB27 := fbU_call hB0 hb16
 have hk28 := hO.blk.below hb16
 · exact ⟨0, L211, h24.sub ⟨rfl, rfl, rfl, (slot_eq rfl (congrArg (Value.int .i64) (by first | exact rgD_0 | (rw [hgj]; exact hg')))), rfl, (slot_eq rfl (congrArg (Value.int .i64) (by first | rfl | omega))), trivial⟩, rfl, by omega, by first | exact hi' | (rw [rtS_0]; assumption), hq13, hr25, hE26, hE20, hB27, hk28⟩
 · rintro k29 a30 w31 ⟨i, Mk, h30, rfl, hi32, hi33, hf34, hf35, hf36, hf37, hB38, hk39⟩
   have hz40 := hB38.size
   have hl41 := hk39.lt
   have hMl : Mk.length = X.length := rt_len (by assumption : Mk.map e0 = (rtS X h (thM X n) i).map e0) (by omega) (by omega)
   have hgb := rgD_nn (h := h) (M := thM X n) (i := i) (fun e he => (hO.ents e he).len) (by omega)
   obtain ⟨gj, hgj⟩ : ∃ z, z = rgD X h (thM X n) i := ⟨_, rfl⟩; rw [← hgj] at hgb
   rw [← hgj] at h30
   refine co_seq ?_
   refine co_seq ?_
   refine co_reg ?_
   refine pk0 (v := .int .i64 ((i : Nat) : Int)) h30 rfl fun a42 h42 => ?_; clear h30
   refine pk0 (v := u12) h42 rfl fun a43 h43 => ?_; clear h42
   refine pk (v := .int .i64 ((Mk.length : Nat) : Int)) h43 rfl (rn_lenOwn rfl rfl Try.underlying29 hf34) fun a44 h44 => ?_; clear h43
   refine pk0 (v := .bool (decide (((i : Nat) : Int) < ((Mk.length : Nat) : Int)))) h44 rfl fun a45 h45 => ?_; clear h44
   refine pk0 (v := .bool (decide (((i : Nat) : Int) < ((Mk.length : Nat) : Int)))) h45 rfl fun a46 h46 => ?_; clear h45
   cases hc47 : (decide (((i : Nat) : Int) < ((Mk.length : Nat) : Int)))
   ·
    rw [hc47] at h46
    have hp48 : ¬ (((i : Nat) : Int) < ((Mk.length : Nat) : Int)) := of_decide_eq_false hc47
    clear hc47
    refine psk h46 rfl fun a49 h49 => ?_; clear h46
    refine psk h49 rfl fun a50 h50 => ?_; clear h49
    refine psk h50 rfl fun a51 h51 => ?_; clear h50
    refine pk0 (v := .bool false) h51 rfl fun a52 h52 => ?_; clear h51
    refine pl_nil ?_
    refine co_then ?_
    refine co_false h52 rfl ?_
    refine wp_exit ?_
    refine co_thenX ?_
    refine co_thenX ?_
    refine co_blockX ?_
    refine co_then ?_
    refine co_seq ?_
    refine co_reg ?_
    refine pk0 (v := pt b 0) h52 rfl fun a53 h53 => ?_; clear h52
    refine pk0 (v := u12) h53 rfl fun a54 h54 => ?_; clear h53
    refine pk0 (v := pt b 0) h54 rfl fun a55 h55 => ?_; clear h54
    refine pk0 (v := pt b 0) h55 rfl fun a56 h56 => ?_; clear h55
    refine pwD h56 rfl (op_store1 rfl rfl rfl (row_one hf34) Try.sizeOf29 hk39 rfl) ?_; clear h56
    rintro _ w58 a57 ⟨hk59, hz60, hg61⟩ h57
    have hk59' : Blk w58 b 31 #[u12] := hk59; clear hk59
    have hz62 := hg61.size
    refine pl_nil ?_
    refine co_then ?_
    refine co_seq ?_
    refine co_reg ?_
    refine pk0 (v := .int .i64 gj) h57 rfl fun a63 h63 => ?_; clear h57
    refine pk0 (v := .int .i64 gj) h63 rfl fun a64 h64 => ?_; clear h63
    refine pl_nil ?_
    refine co_then ?_
    refine wp_ret ?_
    refine co_ret1 h64 rfl rfl ?_
    have hr65 := row_kept_at hf34 hg61 (own_neT hf34 hk39 (by decide))
    have hE66 := hf37.blk hk39 (by decide) hg61
    have hB67 := fbU_at hB38 hg61 (fun hlt => by rcases hO.sb with hq | hq; exact hq; omega)
    have hiM : i = thM X n := Nat.le_antisymm (by omega) (thM_ge (by omega))
    have hLe : Mk.map e0 = (thL X h n).map e0 := by have hq := (by assumption : Mk.map e0 = (rtS X h (thM X n) i).map e0); rw [hiM, rt_end (by omega)] at hq; exact hq
    exact ⟨_, _, ret_int (by unfold thG; rw [hgj, hiM]; exact rgD_end (Nat.le_refl _)), ⟨hk59', (row_lows hr65 (Nat.zero_le _)), hE66, hO.sb, (InS.low hf34 (by omega)), (by have := hO.len; omega)⟩, hLe, hB67⟩
   ·
    rw [hc47] at h46
    have hp68 : ((i : Nat) : Int) < ((Mk.length : Nat) : Int) := of_decide_eq_true hc47
    clear hc47
    refine pk0 (v := .int .i64 ((i : Nat) : Int)) h46 rfl fun a69 h69 => ?_; clear h46
    refine pk0 (v := .int .i64 n) h69 rfl fun a70 h70 => ?_; clear h69
    refine pk0 (v := .bool (decide (((i : Nat) : Int) < n))) h70 rfl fun a71 h71 => ?_; clear h70
    refine pk0 (v := .bool (decide (((i : Nat) : Int) < n))) h71 rfl fun a72 h72 => ?_; clear h71
    refine pl_nil ?_
    refine co_then ?_
    cases hc73 : (decide (((i : Nat) : Int) < n))
    ·
     rw [hc73] at h72
     have hp74 : ¬ (((i : Nat) : Int) < n) := of_decide_eq_false hc73
     clear hc73
     refine co_false h72 rfl ?_
     refine wp_exit ?_
     refine co_thenX ?_
     refine co_thenX ?_
     refine co_blockX ?_
     refine co_then ?_
     refine co_seq ?_
     refine co_reg ?_
     refine pk0 (v := pt b 0) h72 rfl fun a75 h75 => ?_; clear h72
     refine pk0 (v := u12) h75 rfl fun a76 h76 => ?_; clear h75
     refine pk0 (v := pt b 0) h76 rfl fun a77 h77 => ?_; clear h76
     refine pk0 (v := pt b 0) h77 rfl fun a78 h78 => ?_; clear h77
     refine pwD h78 rfl (op_store1 rfl rfl rfl (row_one hf34) Try.sizeOf29 hk39 rfl) ?_; clear h78
     rintro _ w80 a79 ⟨hk81, hz82, hg83⟩ h79
     have hk81' : Blk w80 b 31 #[u12] := hk81; clear hk81
     have hz84 := hg83.size
     refine pl_nil ?_
     refine co_then ?_
     refine co_seq ?_
     refine co_reg ?_
     refine pk0 (v := .int .i64 gj) h79 rfl fun a85 h85 => ?_; clear h79
     refine pk0 (v := .int .i64 gj) h85 rfl fun a86 h86 => ?_; clear h85
     refine pl_nil ?_
     refine co_then ?_
     refine wp_ret ?_
     refine co_ret1 h86 rfl rfl ?_
     have hr87 := row_kept_at hf34 hg83 (own_neT hf34 hk39 (by decide))
     have hE88 := hf37.blk hk39 (by decide) hg83
     have hB89 := fbU_at hB38 hg83 (fun hlt => by rcases hO.sb with hq | hq; exact hq; omega)
     have hiM : i = thM X n := Nat.le_antisymm (by omega) (thM_ge (by omega))
     have hLe : Mk.map e0 = (thL X h n).map e0 := by have hq := (by assumption : Mk.map e0 = (rtS X h (thM X n) i).map e0); rw [hiM, rt_end (by omega)] at hq; exact hq
     exact ⟨_, _, ret_int (by unfold thG; rw [hgj, hiM]; exact rgD_end (Nat.le_refl _)), ⟨hk81', (row_lows hr87 (Nat.zero_le _)), hE88, hO.sb, (InS.low hf34 (by omega)), (by have := hO.len; omega)⟩, hLe, hB89⟩
    ·
     rw [hc73] at h72
     have hp90 : ((i : Nat) : Int) < n := of_decide_eq_true hc73
     clear hc73
     refine co_true h72 rfl ?_
     refine wp_skip ?_
     refine co_then ?_
     refine co_seq ?_
     refine wp_block ?_
     refine co_seq ?_
     refine co_seq ?_
     refine co_reg ?_
     refine pk0 (v := u12) h72 rfl fun a91 h91 => ?_; clear h72
     refine pk0 (v := .int .i64 ((i : Nat) : Int)) h91 rfl fun a92 h92 => ?_; clear h91
     obtain ⟨y93, hy93⟩ : ∃ z, Mk[i]? = some z := ⟨_, List.getElem?_eq_getElem (by first | omega | (simp; done) | (simp; omega))⟩
     have oky93 := (fun (z : EntT) (_ : z ∈ Mk) => trivial) _ (List.mem_of_getElem? hy93)
     have hy94 := hf37.at hy93
     have hq95 := hy94.ts0; have hq96 := hy94.ts1; have hq97 := hy94.len; have hq98 := wf_i64 hy94.cl; have hq99 := wf_i64 hy94.rq
     refine pk (v := pt (blkOf u12) (offOf u12 + i * 4)) h92 rfl (rn_index rfl rfl rfl Try.underlying29 Try.sizeOf37 (row_sl hf34 entE_len) (by omega) (by first | omega | (simp; done) | (simp; omega))) fun a100 h100 => ?_; clear h92
     refine pk0 (v := pt (blkOf u12) (offOf u12 + i * 4 + 3)) h100 rfl fun a101 h101 => ?_; clear h100
     refine pk (v := .int .u64 y93.ts) h101 rfl (rn_load1 rfl rfl Try.isAgg23 ((sl_at (row_sl hf34 entE_len) hy93) 3 _ rfl)) fun a102 h102 => ?_; clear h101
     refine pk0 (v := .bool (y93.ts == 0)) h102 rfl fun a103 h103 => ?_; clear h102
     refine pk0 (v := .bool (y93.ts == 0)) h103 rfl fun a104 h104 => ?_; clear h103
     cases hc105 : (y93.ts == 0)
     ·
      rw [hc105] at h104
      have hp106 : ¬ (y93.ts = 0) := by first | simpa using hc105 | simpa [and_assoc] using hc105
      clear hc105
      refine pk0 (v := u12) h104 rfl fun a107 h107 => ?_; clear h104
      refine pk0 (v := .int .i64 ((i : Nat) : Int)) h107 rfl fun a108 h108 => ?_; clear h107
      refine pk (v := pt (blkOf u12) (offOf u12 + i * 4)) h108 rfl (rn_index rfl rfl rfl Try.underlying29 Try.sizeOf37 (row_sl hf34 entE_len) (by omega) (by first | omega | (simp; done) | (simp; omega))) fun a109 h109 => ?_; clear h108
      refine pk0 (v := pt (blkOf u12) (offOf u12 + i * 4 + 3)) h109 rfl fun a110 h110 => ?_; clear h109
      refine pk (v := .int .u64 y93.ts) h110 rfl (rn_load1 rfl rfl Try.isAgg23 ((sl_at (row_sl hf34 entE_len) hy93) 3 _ rfl)) fun a111 h111 => ?_; clear h110
      refine pk0 (v := .int .u64 h) h111 rfl fun a112 h112 => ?_; clear h111
      refine pk0 (v := .bool (decide (y93.ts > h))) h112 rfl fun a113 h113 => ?_; clear h112
      refine pk0 (v := .bool (decide (y93.ts > h))) h113 rfl fun a114 h114 => ?_; clear h113
      refine pl_nil ?_
      refine co_then ?_
      cases hc115 : (decide (y93.ts > h))
      ·
       rw [hc115] at h114
       have hp116 : ¬ (y93.ts > h) := of_decide_eq_false hc115
       clear hc115
       refine co_false h114 rfl ?_
       refine wp_skip ?_
       refine co_then ?_
       refine co_seq ?_
       refine co_reg ?_
       refine pk0 (v := .slice none 0 0) h114 rfl fun a117 h117 => ?_; clear h114
       refine pl_nil ?_
       refine co_then ?_
       refine co_seq ?_
       refine co_seq ?_
       refine co_reg ?_
       refine pk0 (v := .int .i64 0) h117 rfl fun a118 h118 => ?_; clear h117
       refine pl_nil ?_
       refine co_then ?_
       refine wp_block ?_
       obtain ⟨bs119, hb_bs119⟩ : ∃ b, b = w31.heap.size := ⟨_, rfl⟩
       have hu120 := row_under hf34 hb_bs119
       have hu121 := row_under hf35 hb_bs119
       have hu122 := row_under hy94.row hb_bs119
       have hu123 := EntsK.under hf37 hb_bs119
       have hu124 := EntsK.under hf36 hb_bs119
       have hiM := thM_lt (X := X) (n := n) (i := i) (by omega) (by omega)
       have hw0b : w0.heap.size ≤ bs119 := by omega
       have h125 : Slots 94 [(0, pt b 0), (1, .int .u64 h), (2, .int .i64 n), (7, .int .i64 gj), (8, u12), (9, .int .i64 ((i : Nat) : Int)), (10, .slice none 0 0), (11, .int .i64 0)] _ := h118.sub ⟨rfl, rfl, rfl, rfl, rfl, rfl, rfl, rfl, trivial⟩; clear h118
       refine co_loop (fun mm a x => ∃ (q : Nat) (u2 : Value), Slots 94 [(0, pt b 0), (1, .int .u64 h), (2, .int .i64 n), (7, .int .i64 (gj + ((q : Int) - ((kpL (fT h ((X.take (thM X n)).drop (i + 1))) (y93.opl.take q)).length : Int)))), (8, u12), (9, .int .i64 ((i : Nat) : Int)), (10, u2), (11, .int .i64 ((q : Nat) : Int))] a ∧ mm = y93.opl.length - q ∧ (q ≤ y93.opl.length) ∧ (bs119 ≤ x.heap.size) ∧ x.ownsRow w.heap.size 37 4 u12 Mk.length (Mk.flatMap entE) ∧ x.ownsRow 0 37 4 u X.length (X.flatMap entE) ∧ x.ownsRow 0 74 3 (y93.ops) y93.opl.length (y93.opl.flatMap opE) ∧ EntsK S w0.heap.size x X ∧ EntsK S w0.heap.size x Mk ∧ x.ownsRow bs119 74 3 u2 (kpL (fT h ((X.take (thM X n)).drop (i + 1))) (y93.opl.take q)).length ((kpL (fT h ((X.take (thM X n)).drop (i + 1))) (y93.opl.take q)).flatMap opE) ∧ But (S) w0 x ∧ Blk x b 31 #[u]) (y93.opl.length - 0) ?_ ?_
       · exact ⟨0, (.slice none 0 0), h125.sub ⟨rfl, rfl, rfl, (slot_eq rfl (congrArg (Value.int .i64) (by first | (simp [kpL]; done) | omega))), rfl, rfl, rfl, (slot_eq rfl (congrArg (Value.int .i64) (by first | rfl | omega))), trivial⟩, rfl, by omega, by omega, hf34, hf35, hy94.row, hf36, hf37, (row_nilL _ _ _ _ _), hB38, hk39⟩
       · rintro k126 a127 w128 ⟨q, u2, h127, rfl, hi129, hi130, hf131, hf132, hf133, hf134, hf135, hf136, hB137, hk138⟩
         have hz139 := hB137.size
         have hl140 := hk138.lt
         have hkl := kpL_le (fT h ((X.take (thM X n)).drop (i + 1))) (y93.opl.take q); rw [List.length_take] at hkl
         refine co_seq ?_
         refine co_seq ?_
         refine co_reg ?_
         refine pk0 (v := .int .i64 ((q : Nat) : Int)) h127 rfl fun a141 h141 => ?_; clear h127
         refine pk0 (v := u12) h141 rfl fun a142 h142 => ?_; clear h141
         refine pk0 (v := .int .i64 ((i : Nat) : Int)) h142 rfl fun a143 h143 => ?_; clear h142
         refine pk (v := pt (blkOf u12) (offOf u12 + i * 4)) h143 rfl (rn_index rfl rfl rfl Try.underlying29 Try.sizeOf37 (row_sl hf131 entE_len) (by omega) (by first | omega | (simp; done) | (simp; omega))) fun a144 h144 => ?_; clear h143
         refine pk0 (v := pt (blkOf u12) (offOf u12 + i * 4)) h144 rfl fun a145 h145 => ?_; clear h144
         refine pk0 (v := pt (blkOf u12) (offOf u12 + i * 4 + 2)) h145 rfl fun a146 h146 => ?_; clear h145
         refine pk (v := y93.ops) h146 rfl (rn_load1 rfl rfl Try.isAgg33 ((sl_at (row_sl hf131 entE_len) hy93) 2 _ rfl)) fun a147 h147 => ?_; clear h146
         refine pk (v := .int .i64 ((y93.opl.length : Nat) : Int)) h147 rfl (rn_lenOwn rfl rfl Try.underlying33 hf133) fun a148 h148 => ?_; clear h147
         refine pk0 (v := .bool (decide (((q : Nat) : Int) < ((y93.opl.length : Nat) : Int)))) h148 rfl fun a149 h149 => ?_; clear h148
         refine pl_nil ?_
         refine co_then ?_
         cases hc150 : (decide (((q : Nat) : Int) < ((y93.opl.length : Nat) : Int)))
         ·
          rw [hc150] at h149
          have hp151 : ¬ (((q : Nat) : Int) < ((y93.opl.length : Nat) : Int)) := of_decide_eq_false hc150
          clear hc150
          refine co_false h149 rfl ?_
          refine wp_exit ?_
          refine co_thenX ?_
          refine co_thenX ?_
          refine co_blockX ?_
          refine co_then ?_
          refine co_reg ?_
          refine pk0 (v := u12) h149 rfl fun a152 h152 => ?_; clear h149
          refine pk0 (v := .int .i64 ((i : Nat) : Int)) h152 rfl fun a153 h153 => ?_; clear h152
          refine pk0 (v := u2) h153 rfl fun a154 h154 => ?_; clear h153
          refine pk (v := pt (blkOf u12) (offOf u12 + i * 4)) h154 rfl (rn_index rfl rfl rfl Try.underlying29 Try.sizeOf37 (row_sl hf131 entE_len) (by omega) (by first | omega | (simp; done) | (simp; omega))) fun a155 h155 => ?_; clear h154
          refine pk0 (v := pt (blkOf u12) (offOf u12 + i * 4)) h155 rfl fun a156 h156 => ?_; clear h155
          refine pk0 (v := pt (blkOf u12) (offOf u12 + i * 4 + 2)) h156 rfl fun a157 h157 => ?_; clear h156
          refine pwD h157 rfl (op_storeRow (c := i * 4 + 2) rfl rfl rfl (row_one hf136) Try.sizeOf33 hf131 (flat_lt entE_len (by first | omega | (simp; omega)) (by omega)) (by first | rfl | omega)) ?_; clear h157
          rintro _ w159 a158 ⟨hr160, hz161, hg162⟩ h158
          have hr160' := row_set (y' := (EntT.mk y93.client y93.req u2 (kpL (fT h ((X.take (thM X n)).drop (i + 1))) (y93.opl.take q)) y93.ts)) hr160 entE_len hy93 (by omega) rfl; clear hr160
          have hz163 := hg162.size
          have hE166 := hf135.row hf131 (by decide) hg162
          have hy165 := EntsK.at hE166 hy93
          have hr167 := row_kept_row hf136 hf131 hg162 (by decide)
          have hE164 := EntsK.set (i := i) (z := (EntT.mk y93.client y93.req u2 (kpL (fT h ((X.take (thM X n)).drop (i + 1))) (y93.opl.take q)) y93.ts)) hE166 ⟨row_lows hr167 (Nat.zero_le _), InS.low hr167 (by omega), Nat.le_trans (kpL_le _ _) (by rw [List.length_take]; omega), kpL_all (fun o ho => hy165.each o (List.mem_of_mem_take ho)), hy165.ts0, hy165.ts1, hy165.cl, hy165.rq⟩
          refine pl_nil ?_
          refine co_blockN ?_
          refine co_then ?_
          refine co_reg ?_
          refine pk0 (v := .int .i64 ((i : Nat) : Int)) h158 rfl fun a168 h168 => ?_; clear h158
          refine pk (v := .int .i64 ((i + 1 : Nat) : Int)) h168 rfl (rn_arith' rfl rfl rfl rfl rfl rfl (IntWalk.i64_in _ (by omega)) (by omega)) fun a169 h169 => ?_; clear h168
          refine pk0 (v := .int .i64 ((i + 1 : Nat) : Int)) h169 rfl fun a170 h170 => ?_; clear h169
          refine pl_nil ?_
          refine co_then ?_
          refine ⟨(X.length - (i + 1)), by omega, ?_⟩
          have hq0 : ltE h y93 = true := ltE_t (by omega) (by omega)
          have htk : List.take q y93.opl = y93.opl := List.take_of_length_le (by omega)
          have hi' := rt_yes (y' := (EntT.mk y93.client y93.req u2 (kpL (fT h ((X.take (thM X n)).drop (i + 1))) (y93.opl.take q)) y93.ts)) (by assumption : Mk.map e0 = (rtS X h (thM X n) i).map e0) hiM (by omega) hy93 hq0 (by simp only [e0, htk])
          have hg' := rgD_yes (q := q) (by assumption : Mk.map e0 = (rtS X h (thM X n) i).map e0) hiM (by omega) hy93 hq0 (by omega) (by omega)
          have hr171 := row_kept_ap hf132 hf131 hu17 hg162
          have hE172 := hf134.row hf131 (by decide) hg162
          have hB173 := fbU_row hB137 (InS.low hf131 (by omega)) hg162
          have hk174 := hk138.kept hg162 (own_neT hf131 hk138 (by decide))
          exact ⟨i + 1, (Mk.set i (EntT.mk y93.client y93.req u2 (kpL (fT h ((X.take (thM X n)).drop (i + 1))) (y93.opl.take q)) y93.ts)), h170.sub ⟨rfl, rfl, rfl, (slot_eq rfl (congrArg (Value.int .i64) (by first | exact rgD_0 | (rw [hgj]; exact hg')))), rfl, rfl, trivial⟩, rfl, by omega, by first | exact hi' | (rw [rtS_0]; assumption), hr160', hr171, hE172, hE164, hB173, hk174⟩
         ·
          rw [hc150] at h149
          have hp175 : ((q : Nat) : Int) < ((y93.opl.length : Nat) : Int) := of_decide_eq_true hc150
          clear hc150
          refine co_true h149 rfl ?_
          refine wp_skip ?_
          refine co_then ?_
          refine co_seq ?_
          refine wp_block ?_
          refine co_seq ?_
          refine co_reg ?_
          refine pk0 (v := pt b 0) h149 rfl fun a176 h176 => ?_; clear h149
          refine pk0 (v := .int .i64 ((i : Nat) : Int)) h176 rfl fun a177 h177 => ?_; clear h176
          refine pk0 (v := u12) h177 rfl fun a178 h178 => ?_; clear h177
          refine pk0 (v := .int .i64 ((i : Nat) : Int)) h178 rfl fun a179 h179 => ?_; clear h178
          refine pk (v := pt (blkOf u12) (offOf u12 + i * 4)) h179 rfl (rn_index rfl rfl rfl Try.underlying29 Try.sizeOf37 (row_sl hf131 entE_len) (by omega) (by first | omega | (simp; done) | (simp; omega))) fun a180 h180 => ?_; clear h179
          refine pk0 (v := pt (blkOf u12) (offOf u12 + i * 4)) h180 rfl fun a181 h181 => ?_; clear h180
          refine pk0 (v := pt (blkOf u12) (offOf u12 + i * 4 + 2)) h181 rfl fun a182 h182 => ?_; clear h181
          refine pk (v := y93.ops) h182 rfl (rn_load1 rfl rfl Try.isAgg33 ((sl_at (row_sl hf131 entE_len) hy93) 2 _ rfl)) fun a183 h183 => ?_; clear h182
          refine pk0 (v := .int .i64 ((q : Nat) : Int)) h183 rfl fun a184 h184 => ?_; clear h183
          obtain ⟨y185, hy185⟩ : ∃ z, y93.opl[q]? = some z := ⟨_, List.getElem?_eq_getElem (by first | omega | (simp; done) | (simp; omega))⟩
          refine pk (v := pt (blkOf (y93.ops)) (offOf (y93.ops) + q * 3)) h184 rfl (rn_index rfl rfl rfl Try.underlying33 Try.sizeOf74 (row_sl hf133 opE_len) (by omega) (by first | omega | (simp; done) | (simp; omega))) fun a186 h186 => ?_; clear h184
          refine pk0 (v := pt (blkOf (y93.ops)) (offOf (y93.ops) + q * 3)) h186 rfl fun a187 h187 => ?_; clear h186
          refine pk (v := .string y185.1) h187 rfl (rn_load1 rfl rfl Try.isAgg9 ((sl_at (row_sl hf133 opE_len) hy185) 0 _ rfl)) fun a188 h188 => ?_; clear h187
          refine pk0 (v := .int .u64 h) h188 rfl fun a189 h189 => ?_; clear h188
          refine pk0 (v := .int .i64 n) h189 rfl fun a190 h190 => ?_; clear h189
          refine pw h190 rfl (op_call (args := #[pt b 0, .int .i64 ((i : Nat) : Int), .string y185.1, .int .u64 h, .int .i64 n]) (R := fun res xw => res = .bool (latB X i y185.1 h n) ∧ Below w128.heap.size w128 xw) rfl rfl rfl (by kernel_rfl) (by kernel_rfl) (Try.call64 _ _) (rLater_any b u X i y185.1 h n w128 hk138 (row_sl hf132 entE_len) (entsK_got hf134) (fun z hz => (hf134 z hz).len) hO.len hiM hh hni) (by rintro e x ⟨rfl, hb193⟩; exact ⟨_, rfl, ⟨rfl, hb193⟩⟩)) ?_; clear h190
          rintro _ w192 a191 ⟨rfl, hb193⟩ h191
          have hz194 := hb193.size
          refine pl_nil ?_
          refine co_then ?_
          have hB196 := fbU_call hB137 hb193
          cases hc195 : (latB X i y185.1 h n)
          ·
           rw [hc195] at h191
           refine co_false h191 rfl ?_
           refine co_reg ?_
           refine pk0 (v := u2) h191 rfl fun a197 h197 => ?_; clear h191
           refine pk0 (v := u12) h197 rfl fun a198 h198 => ?_; clear h197
           refine pk0 (v := .int .i64 ((i : Nat) : Int)) h198 rfl fun a199 h199 => ?_; clear h198
           have hr200 := row_kept_new hf131 (below_grown hb193)
           refine pk (v := pt (blkOf u12) (offOf u12 + i * 4)) h199 rfl (rn_index rfl rfl rfl Try.underlying29 Try.sizeOf37 (row_sl hr200 entE_len) (by omega) (by first | omega | (simp; done) | (simp; omega))) fun a201 h201 => ?_; clear h199
           refine pk0 (v := pt (blkOf u12) (offOf u12 + i * 4)) h201 rfl fun a202 h202 => ?_; clear h201
           refine pk0 (v := pt (blkOf u12) (offOf u12 + i * 4 + 2)) h202 rfl fun a203 h203 => ?_; clear h202
           refine pk (v := y93.ops) h203 rfl (rn_load1 rfl rfl Try.isAgg33 ((sl_at (row_sl hr200 entE_len) hy93) 2 _ rfl)) fun a204 h204 => ?_; clear h203
           refine pk0 (v := .int .i64 ((q : Nat) : Int)) h204 rfl fun a205 h205 => ?_; clear h204
           have hr206 := row_kept_new hf133 (below_grown hb193)
           refine pk (v := pt (blkOf (y93.ops)) (offOf (y93.ops) + q * 3)) h205 rfl (rn_index rfl rfl rfl Try.underlying33 Try.sizeOf74 (row_sl hr206 opE_len) (by omega) (by first | omega | (simp; done) | (simp; omega))) fun a207 h207 => ?_; clear h205
           refine pk (v := .agg #[.string y185.1, .string y185.2.1, .bool y185.2.2]) h207 rfl (rn_loadN rfl rfl Try.underlying74 rfl (by kernel_rfl) (sl_at (row_sl hr206 opE_len) hy185)) fun a208 h208 => ?_; clear h207
           refine pw h208 rfl (op_new (v := fun N => .slice (some ⟨N, 0, none⟩) 1 1) (T := 74) (cs := #[.string y185.1, .string y185.2.1, .bool y185.2.2]) (by kernel_rfl) (by kernel_rfl) (by kernel_rfl)) ?_; clear h208
           rintro _ w210 a209 ⟨N211, rfl, hN214, hz215, hk213, hg212⟩ h209
           have ha216 := row_fresh hr200 hN214
           have hu217 := row_under hr200 hN214
           have hr219 := row_kept_new hf132 (below_grown hb193)
           have ha218 := row_fresh hr219 hN214
           have hu220 := row_under hr219 hN214
           have ha221 := row_fresh hr206 hN214
           have hu222 := row_under hr206 hN214
           have hr224 := row_kept_new hf136 (below_grown hb193)
           have ha223 := row_fresh hr224 hN214
           have hu225 := row_under hr224 hN214
           have hz226 := hg212.size
           have hE228 := hf134.new (below_grown hb193)
           have hu227 := EntsK.under hE228 hN214
           have hE230 := hf135.new (below_grown hb193)
           have hu229 := EntsK.under hE230 hN214
           try dsimp only at h209
           have hr237 := row_kept_new hr224 hg212
           refine pw h209 rfl (op_append rfl bs119 74 (z := .agg #[.string (⟨#[]⟩), .string (⟨#[]⟩), .bool false]) (size := 3) (bytes := 40) Try.underlying33 (by kernel_rfl) rfl rfl rfl hr237 rfl hk213 rfl (by kernel_rfl) (by first | omega | (simp only [List.length_nil, List.length_append, List.length_cons, List.length_take, List.length_drop]; omega)) (by first | omega | (simp only [List.length_nil, List.length_append, List.length_cons, List.length_take, List.length_drop]; omega)) (by omega)) ?_; clear h209
           rintro v233 w232 a231 ⟨hr234, hg235⟩ h231
           have hr234' : w232.ownsRow bs119 74 3 v233 (((kpL (fT h ((X.take (thM X n)).drop (i + 1))) (y93.opl.take q)) ++ [(y185.1, y185.2.1, y185.2.2)]).length) (((kpL (fT h ((X.take (thM X n)).drop (i + 1))) (y93.opl.take q)) ++ [(y185.1, y185.2.1, y185.2.2)]).flatMap opE) := row_push (y := (y185.1, y185.2.1, y185.2.2)) hr234 rfl rfl; clear hr234
           have hz238 := hg235.size
           refine pk0 (v := v233) h231 rfl fun a239 h239 => ?_; clear h231
           refine pl_nil ?_
           refine co_blockN ?_
           refine co_then ?_
           refine co_reg ?_
           refine pk0 (v := .int .i64 ((q : Nat) : Int)) h239 rfl fun a240 h240 => ?_; clear h239
           refine pk (v := .int .i64 ((q + 1 : Nat) : Int)) h240 rfl (rn_arith' rfl rfl rfl rfl rfl rfl (IntWalk.i64_in _ (by omega)) (by omega)) fun a241 h241 => ?_; clear h240
           refine pk0 (v := .int .i64 ((q + 1 : Nat) : Int)) h241 rfl fun a242 h242 => ?_; clear h241
           refine pl_nil ?_
           refine co_then ?_
           refine ⟨(y93.opl.length - (q + 1)), by omega, ?_⟩
           have hlt : decide (fT h ((X.take (thM X n)).drop (i + 1)) y185.1 ≠ 0) = false := hc195
           have hkq := kq_yes_len hy185 hlt
           have hr243 := row_kept_new hr200 hg212
           have hr244 := row_kept_ap hr243 hr237 hu120 hg235
           have hr245 := row_kept_new hr219 hg212
           have hr246 := row_kept_ap hr245 hr237 hu121 hg235
           have hr247 := row_kept_new hr206 hg212
           have hr248 := row_kept_ap hr247 hr237 hu122 hg235
           have hE249 := hE228.new hg212
           have hE250 := hE249.rowU hu124 hr237 hg235
           have hE251 := hE230.new hg212
           have hE252 := hE251.rowU hu123 hr237 hg235
           have hB253 := fbU_new hB196 hg212
           have hB254 := fbU_row hB253 (InS.low hr237 (by omega)) hg235
           have hk255 := hk138.below hb193
           have hk256 := hk255.kept hg212 (by simp)
           have hk257 := hk256.kept hg235 (own_neT hr237 hk256 (by decide))
           exact ⟨q + 1, v233, h242.sub ⟨rfl, rfl, rfl, (slot_eq rfl (congrArg (Value.int .i64) (by first | (simp [kpL]; done) | omega))), rfl, rfl, rfl, rfl, trivial⟩, rfl, by omega, by omega, hr244, hr246, hr248, hE250, hE252, (row_eq hr234' (by first | rfl | exact kq_yes (by assumption) hlt | exact kq_no (by assumption) hlt)), hB254, hk257⟩
          ·
           rw [hc195] at h191
           refine co_true h191 rfl ?_
           refine co_reg ?_
           refine pk0 (v := .int .i64 (gj + ((q : Int) - ((kpL (fT h ((X.take (thM X n)).drop (i + 1))) (y93.opl.take q)).length : Int)))) h191 rfl fun a258 h258 => ?_; clear h191
           refine pk (v := .int .i64 ((gj + ((q : Int) - ((kpL (fT h ((X.take (thM X n)).drop (i + 1))) (y93.opl.take q)).length : Int))) + 1)) h258 rfl (rn_arith rfl rfl rfl rfl rfl rfl (IntWalk.i64_in _ (by omega))) fun a259 h259 => ?_; clear h258
           refine pk0 (v := .int .i64 ((gj + ((q : Int) - ((kpL (fT h ((X.take (thM X n)).drop (i + 1))) (y93.opl.take q)).length : Int))) + 1)) h259 rfl fun a260 h260 => ?_; clear h259
           refine pl_nil ?_
           refine co_blockN ?_
           refine co_then ?_
           refine co_reg ?_
           refine pk0 (v := .int .i64 ((q : Nat) : Int)) h260 rfl fun a261 h261 => ?_; clear h260
           refine pk (v := .int .i64 ((q + 1 : Nat) : Int)) h261 rfl (rn_arith' rfl rfl rfl rfl rfl rfl (IntWalk.i64_in _ (by omega)) (by omega)) fun a262 h262 => ?_; clear h261
           refine pk0 (v := .int .i64 ((q + 1 : Nat) : Int)) h262 rfl fun a263 h263 => ?_; clear h262
           refine pl_nil ?_
           refine co_then ?_
           refine ⟨(y93.opl.length - (q + 1)), by omega, ?_⟩
           have hlt : decide (fT h ((X.take (thM X n)).drop (i + 1)) y185.1 ≠ 0) = true := hc195
           have hkq := kq_no_len hy185 hlt
           have hr264 := row_kept_new hf131 (below_grown hb193)
           have hr265 := row_kept_new hf132 (below_grown hb193)
           have hr266 := row_kept_new hf133 (below_grown hb193)
           have hE267 := hf134.new (below_grown hb193)
           have hE268 := hf135.new (below_grown hb193)
           have hr269 := row_kept_new hf136 (below_grown hb193)
           have hk270 := hk138.below hb193
           exact ⟨q + 1, u2, h263.sub ⟨rfl, rfl, rfl, (slot_eq rfl (congrArg (Value.int .i64) (by first | (simp [kpL]; done) | omega))), rfl, rfl, rfl, rfl, trivial⟩, rfl, by omega, by omega, hr264, hr265, hr266, hE267, hE268, (row_eq hr269 (by first | rfl | exact kq_yes (by assumption) hlt | exact kq_no (by assumption) hlt)), hB196, hk270⟩
      ·
       rw [hc115] at h114
       have hp271 : y93.ts > h := of_decide_eq_true hc115
       clear hc115
       refine co_true h114 rfl ?_
       refine wp_exit ?_
       refine co_thenX ?_
       refine co_blockX ?_
       refine co_then ?_
       refine co_reg ?_
       refine pk0 (v := .int .i64 ((i : Nat) : Int)) h114 rfl fun a272 h272 => ?_; clear h114
       refine pk (v := .int .i64 ((i + 1 : Nat) : Int)) h272 rfl (rn_arith' rfl rfl rfl rfl rfl rfl (IntWalk.i64_in _ (by omega)) (by omega)) fun a273 h273 => ?_; clear h272
       refine pk0 (v := .int .i64 ((i + 1 : Nat) : Int)) h273 rfl fun a274 h274 => ?_; clear h273
       refine pl_nil ?_
       refine co_then ?_
       refine ⟨(X.length - (i + 1)), by omega, ?_⟩
       have hiM := thM_lt (X := X) (n := n) (i := i) (by omega) (by omega)
       have hq0 : ltE h y93 = false := ltE_f (by omega)
       have hi' := rt_no (by assumption : Mk.map e0 = (rtS X h (thM X n) i).map e0) hiM (by omega) hy93 hq0
       have hg' := rgD_no (by assumption : Mk.map e0 = (rtS X h (thM X n) i).map e0) hiM (by omega) hy93 hq0
       exact ⟨i + 1, Mk, h274.sub ⟨rfl, rfl, rfl, (slot_eq rfl (congrArg (Value.int .i64) (by first | exact rgD_0 | (rw [hgj]; exact hg')))), rfl, rfl, trivial⟩, rfl, by omega, by first | exact hi' | (rw [rtS_0]; assumption), hf34, hf35, hf36, hf37, hB38, hk39⟩
     ·
      rw [hc105] at h104
      have hp275 : y93.ts = 0 := by first | simpa using hc105 | simpa [and_assoc] using hc105
      clear hc105
      refine psk h104 rfl fun a276 h276 => ?_; clear h104
      refine psk h276 rfl fun a277 h277 => ?_; clear h276
      refine psk h277 rfl fun a278 h278 => ?_; clear h277
      refine psk h278 rfl fun a279 h279 => ?_; clear h278
      refine psk h279 rfl fun a280 h280 => ?_; clear h279
      refine psk h280 rfl fun a281 h281 => ?_; clear h280
      refine psk h281 rfl fun a282 h282 => ?_; clear h281
      refine pk0 (v := .bool true) h282 rfl fun a283 h283 => ?_; clear h282
      refine pl_nil ?_
      refine co_then ?_
      refine co_true h283 rfl ?_
      refine wp_exit ?_
      refine co_thenX ?_
      refine co_blockX ?_
      refine co_then ?_
      refine co_reg ?_
      refine pk0 (v := .int .i64 ((i : Nat) : Int)) h283 rfl fun a284 h284 => ?_; clear h283
      refine pk (v := .int .i64 ((i + 1 : Nat) : Int)) h284 rfl (rn_arith' rfl rfl rfl rfl rfl rfl (IntWalk.i64_in _ (by omega)) (by omega)) fun a285 h285 => ?_; clear h284
      refine pk0 (v := .int .i64 ((i + 1 : Nat) : Int)) h285 rfl fun a286 h286 => ?_; clear h285
      refine pl_nil ?_
      refine co_then ?_
      refine ⟨(X.length - (i + 1)), by omega, ?_⟩
      have hiM := thM_lt (X := X) (n := n) (i := i) (by omega) (by omega)
      have hq0 : ltE h y93 = false := ltE_f (by omega)
      have hi' := rt_no (by assumption : Mk.map e0 = (rtS X h (thM X n) i).map e0) hiM (by omega) hy93 hq0
      have hg' := rgD_no (by assumption : Mk.map e0 = (rtS X h (thM X n) i).map e0) hiM (by omega) hy93 hq0
      exact ⟨i + 1, Mk, h286.sub ⟨rfl, rfl, rfl, (slot_eq rfl (congrArg (Value.int .i64) (by first | exact rgD_0 | (rw [hgj]; exact hg')))), rfl, rfl, trivial⟩, rfl, by omega, by first | exact hi' | (rw [rtS_0]; assumption), hf34, hf35, hf36, hf37, hB38, hk39⟩
end Go.Proofs.Ytniojcnkjehflaa

/- Logs: what is right stays right; where operations lie is not seen. Pure. Conditions: none. -/
namespace Go.Proofs.Ytniojcnkjehflaa
open Go.RowKit Go.PlainAid
set_option linter.unusedVariables false


theorem kbl_nil (l : List UInt8) : Op.bytesLess l [] = false := by cases l <;> rfl
theorem kbl_cons (a b : UInt8) (x y : List UInt8) : Op.bytesLess (a :: x) (b :: y) = (decide (a < b) || (a == b && Op.bytesLess x y)) := rfl
theorem kbl_trans : ∀ (x y z : List UInt8), Op.bytesLess x y = true → Op.bytesLess y z = true → Op.bytesLess x z = true
  | _, [], _, h, _ => by rw [kbl_nil] at h; cases h
  | _, _ :: _, [], _, h => by rw [kbl_nil] at h; cases h
  | [], _ :: _, _ :: _, _, _ => rfl
  | a :: x, b :: y, c :: z, h, k => by
    rw [kbl_cons, Bool.or_eq_true, Bool.and_eq_true, decide_eq_true_eq, beq_iff_eq] at h k ⊢
    have ih := kbl_trans x y z
    rcases h with h | ⟨rfl, h⟩ <;> rcases k with k | ⟨rfl, k⟩
    · left; exact UInt8.lt_trans h k
    · left; exact h
    · left; exact k
    · right; exact ⟨rfl, ih h k⟩
theorem kbl_irr : ∀ l : List UInt8, Op.bytesLess l l = false
  | [] => rfl
  | a :: x => by rw [kbl_cons, kbl_irr x]; simp
def keyLt (a b : OpT) : Prop := Op.bytesLess a.1.toList b.1.toList = true
theorem chkL_iff : ∀ (l : List OpT) (p : Option ByteArray), chkL p l = 0 ↔ (∀ o ∈ l, chkOp o = 0) ∧ l.Pairwise keyLt ∧ (∀ q, p = some q → ∀ o ∈ l, Op.bytesLess q.toList o.1.toList = true)
  | [], p => by simp [chkL]
  | o :: r, p => by
    have ih := chkL_iff r (some o.1)
    simp only [chkL]
    by_cases h1 : chkOp o ≠ 0
    · rw [if_pos h1]
      exact ⟨fun h => absurd h h1, fun h => absurd (h.1 o (by simp)) h1⟩
    · rw [if_neg h1]
      have h1' : chkOp o = 0 := by omega
      by_cases h2 : keyUp p o.1 = true
      · rw [if_pos h2, ih]
        constructor
        · rintro ⟨k1, k2, k3⟩
          have k4 := k3 o.1 rfl
          refine ⟨?_, List.pairwise_cons.2 ⟨fun x hx => k4 x hx, k2⟩, ?_⟩
          · intro x hx; rw [List.mem_cons] at hx; rcases hx with rfl | hx; exact h1'; exact k1 x hx
          · rintro q rfl x hx
            have h2' : Op.bytesLess q.toList o.1.toList = true := h2
            rw [List.mem_cons] at hx; rcases hx with rfl | hx; exact h2'; exact kbl_trans _ _ _ h2' (k4 x hx)
        · rintro ⟨k1, k2, k3⟩
          rw [List.pairwise_cons] at k2
          exact ⟨fun x hx => k1 x (List.mem_cons_of_mem _ hx), k2.2, fun q hq x hx => by cases hq; exact k2.1 x hx⟩
      · rw [if_neg h2]
        refine ⟨(fun h => by cases h), fun h => ?_⟩
        cases p with
        | none => exact absurd rfl h2
        | some q => exact absurd (h.2.2 q rfl o (by simp)) h2
theorem chkB_iff (c r : Int) (l : List OpT) : chkB c r l = 0 ↔ (0 ≤ c ∧ c < 3) ∧ (1 ≤ r ∧ r ≤ 1073741824) ∧ l.length ≤ 4 ∧ (∀ o ∈ l, chkOp o = 0) ∧ l.Pairwise keyLt := by
  have hk : chkL none l = 0 ↔ (∀ o ∈ l, chkOp o = 0) ∧ l.Pairwise keyLt := by rw [chkL_iff]; simp
  unfold chkB
  by_cases h1 : c < 0 ∨ c ≥ 3
  · rw [if_pos h1]; exact ⟨(fun h => by cases h), fun h => by omega⟩
  · rw [if_neg h1]
    by_cases h2 : r < 1 ∨ r > 1073741824
    · rw [if_pos h2]; exact ⟨(fun h => by cases h), fun h => by omega⟩
    · rw [if_neg h2]
      by_cases h3 : ((l.length : Nat) : Int) > 4
      · rw [if_pos h3]; exact ⟨(fun h => by cases h), fun h => by omega⟩
      · rw [if_neg h3, hk]; exact ⟨fun h => ⟨by omega, by omega, by omega, h.1, h.2⟩, fun h => ⟨h.2.2.2.1, h.2.2.2.2⟩⟩
theorem chkB_kp {c r : Int} {l : List OpT} (f : ByteArray → Int) (h : chkB c r l = 0) : chkB c r (kpL f l) = 0 := by
  rw [chkB_iff] at h ⊢
  exact ⟨h.1, h.2.1, Nat.le_trans (kpL_le _ _) h.2.2.1, kpL_all h.2.2.2.1, h.2.2.2.2.sublist (List.filter_sublist ..)⟩
theorem chkB_nd {c r : Int} {l : List OpT} (h : chkB c r l = 0) : (l.map (·.1)).Nodup := by
  rw [chkB_iff] at h
  have h2 : l.Pairwise (fun a b => a.1 ≠ b.1) := h.2.2.2.2.imp fun {a b} hab e => by
    unfold keyLt at hab; rw [e, kbl_irr] at hab; cases hab
  exact List.pairwise_map.2 h2
/-- A log that is right. -/
structure RI (L : List EntT) : Prop where
  chk : ∀ e ∈ L, chkB e.client e.req e.opl = 0
  uq : UqN L
  up : ∀ i y p, L[i + 1]? = some y → L[i]? = some p → y.ts ≠ 0 → p.ts ≠ 0 ∧ p.ts < y.ts
theorem RI.nd {L : List EntT} (h : RI L) : ∀ e ∈ L, (e.opl.map (·.1)).Nodup := fun e he => chkB_nd (h.chk e he)
theorem RI.nil : RI [] := ⟨fun e he => by simp at he, by simp [UqN], fun i y p h => by simp at h⟩
theorem RI.e0 {A B : List EntT} (h : A.map e0 = B.map e0) (hA : RI A) : RI B := by
  have ba := h.symm
  refine ⟨fun e he => ?_, hA.uq.nm (e0_f (f := nmE) (fun _ => rfl) ba), fun i y p hy hp hn => ?_⟩
  · obtain ⟨i, hi⟩ := List.getElem?_of_mem he
    obtain ⟨z, hz, e1⟩ := e0_at ba hi
    obtain ⟨_, k2, k3, k4⟩ := e0_ts e1
    rw [← k2, ← k3, ← k4]; exact hA.chk z (List.mem_of_getElem? hz)
  · obtain ⟨y', h1, e1⟩ := e0_at ba hy
    obtain ⟨p', h2, e2⟩ := e0_at ba hp
    have := hA.up i y' p' h1 h2 (by rw [(e0_ts e1).1]; exact hn)
    rw [(e0_ts e1).1, (e0_ts e2).1] at this; exact this
theorem rgF_0 : ∀ (r pre : List EntT), rgF pre r = 0 ↔ (∀ e ∈ r, chkB e.client e.req e.opl = 0) ∧ (∀ i y, r[i]? = some y → ¬ 0 < twN (pre ++ r.take i) y.client y.req) ∧ (∀ i y, r[i]? = some y → badT (pre ++ r.take i) y = false)
  | [], pre => by simp [rgF]
  | e :: r, pre => by
    have ih := rgF_0 r (pre ++ [e])
    rw [rgF]
    by_cases h1 : chkB e.client e.req e.opl ≠ 0
    · rw [if_pos h1]; exact ⟨fun h => absurd h h1, fun h => absurd (h.1 e (by simp)) h1⟩
    · rw [if_neg h1]
      by_cases h2 : 0 < twN pre e.client e.req
      · rw [if_pos h2]; exact ⟨(fun h => by cases h), fun h => absurd h2 (by simpa using h.2.1 0 e rfl)⟩
      · rw [if_neg h2]
        by_cases h3 : badT pre e = true
        · rw [if_pos h3]; exact ⟨(fun h => by cases h), fun h => by have := h.2.2 0 e rfl; simp [h3] at this⟩
        · rw [if_neg h3, ih]
          constructor
          · rintro ⟨k1, k2, k3⟩
            refine ⟨fun x hx => ?_, fun i y hy => ?_, fun i y hy => ?_⟩
            · rw [List.mem_cons] at hx; rcases hx with rfl | hx; omega; exact k1 x hx
            · cases i with
              | zero => simp at hy; subst hy; simpa using h2
              | succ i => simp at hy; have := k2 i y hy; simpa using this
            · cases i with
              | zero => simp at hy; subst hy; simpa using h3
              | succ i => simp at hy; have := k3 i y hy; simpa using this
          · rintro ⟨k1, k2, k3⟩
            refine ⟨fun x hx => k1 x (List.mem_cons_of_mem _ hx), fun i y hy => ?_, fun i y hy => ?_⟩
            · have := k2 (i + 1) y (by simpa using hy); simpa using this
            · have := k3 (i + 1) y (by simpa using hy); simpa using this
theorem rev_ind {α : Type} {p : List α → Prop} (h0 : p []) (h1 : ∀ l y, p l → p (l ++ [y])) (l : List α) : p l := by
  rw [← List.reverse_reverse l]
  induction l.reverse with
  | nil => exact h0
  | cons y r ih => rw [List.reverse_cons]; exact h1 _ _ ih
theorem twN_none {L : List EntT} {c r : Int} : ¬ 0 < twN L c r ↔ ∀ z ∈ L, nmE z ≠ (c, r) := by
  refine rev_ind (p := fun L => ¬ 0 < twN L c r ↔ ∀ z ∈ L, nmE z ≠ (c, r)) ?_ (fun l y ih => ?_) L
  · simp [twN]
  · rw [twN_snoc]
    have h0 := twN_pos l c r
    constructor
    · intro h z hz
      rw [List.mem_append, List.mem_singleton] at hz
      rcases hz with hz | rfl
      · exact ih.1 (by split at h <;> omega) z hz
      · intro e; simp only [nmE, Prod.mk.injEq] at e; rw [if_pos e] at h; omega
    · intro h
      have h1 := ih.2 (fun z hz => h z (by simp [hz]))
      have h2 : ¬ (y.client = c ∧ y.req = r) := fun q => h y (by simp) (by simp [nmE, q.1, q.2])
      rw [if_neg h2]; omega
theorem RI.right {L : List EntT} (h : RI L) : rightI L = 0 := by
  unfold rightI
  rw [rgF_0]
  refine ⟨h.chk, fun i y hy => ?_, fun i y hy => ?_⟩
  · rw [List.nil_append, twN_none]
    intro z hz e
    obtain ⟨j, hj⟩ := List.getElem?_of_mem hz
    have hl := (List.getElem?_eq_some_iff.1 hj).1
    rw [List.length_take] at hl
    rw [List.getElem?_take, if_pos (by omega)] at hj
    have := h.uq.at hj hy e
    omega
  · rw [List.nil_append]
    cases i with
    | zero => exact badM_0 rfl
    | succ i =>
      have hl := (List.getElem?_eq_some_iff.1 hy).1
      rw [bad_at (j := i) (by omega) (by omega) (List.getElem?_eq_getElem (by omega))]
      refine decide_eq_false (fun q => ?_)
      have := h.up i y _ hy (List.getElem?_eq_getElem (by omega)) q.1
      omega
section
variable {L : List EntT} {i c r ts n h : Int} {l : List OpT}
theorem RI.take (h : RI L) (k : Nat) : RI (L.take k) := ⟨fun e he => h.chk e (List.mem_of_mem_take he), h.uq.take k, fun i y p hy hp hn => by
  have hl := (List.getElem?_eq_some_iff.1 hy).1
  rw [List.length_take] at hl
  rw [List.getElem?_take, if_pos (by omega)] at hy hp
  exact h.up i y p hy hp hn⟩
theorem setE_0 (h : setE L i c r l ts = 0) : 0 ≤ i ∧ i ≤ (L.length : Int) ∧ chkB c r l = 0 ∧ i < 100 ∧ findN (L.take i.toNat) (c, r) = none ∧ badT (L.take i.toNat) (EntT.mk c r (.slice none 0 0) l ts) = false := by
  unfold setE at h
  split at h
  · cases h
  · rename_i h1
    split at h
    · rename_i h2; exact absurd h h2
    · rename_i h2
      split at h
      · cases h
      · rename_i h3
        split at h
        · cases h
        · rename_i h4
          split at h
          · cases h
          · rename_i h5
            refine ⟨by omega, by omega, by omega, by omega, ?_, by simpa using h5⟩
            cases hf : findN (L.take i.toNat) (c, r) with
            | none => rfl
            | some a => rw [hf] at h4; exact absurd rfl h4
theorem bad_pre {k : Nat} {p : EntT} {v : Value} (hb : badT (L.take (k + 1)) (EntT.mk c r v l ts) = false) (hp : L[k]? = some p) (hn : ts ≠ 0) : p.ts ≠ 0 ∧ p.ts < ts := by
  rw [bad_at (j := k) (by omega) (by omega) hp] at hb
  have := of_decide_eq_false hb
  simp only [] at this
  omega
theorem RI.set (hR : RI L) : RI (setL L i c r l ts) := by
  by_cases h0 : setE L i c r l ts ≠ 0
  · rw [setL_no h0]; exact hR
  · have h0' : setE L i c r l ts = 0 := by omega
    obtain ⟨k1, k2, k3, k4, k5, k6⟩ := setE_0 h0'
    by_cases h1 : (L[i.toNat]?).map nmE = some (c, r)
    · rw [setL_tw h0' h1]
      obtain ⟨y0, hy0, _⟩ := Option.map_eq_some_iff.1 h1
      by_cases hts : y0.ts = ts
      · rw [restF_same hy0 hts]; exact hR
      · rw [← restF_ne (k := L.length) hy0 hts (Nat.le_refl _)]
        have hil := (List.getElem?_eq_some_iff.1 hy0).1
        have hat : ∀ j y, (rsL L i.toNat ts L.length)[j]? = some y → ∃ z, L[j]? = some z ∧ y.client = z.client ∧ y.req = z.req ∧ y.opl = z.opl ∧ y.ts = if j = i.toNat then ts else if i.toNat < j then 0 else z.ts := by
          intro j y hy
          simp only [rsL, List.getElem?_mapIdx] at hy
          obtain ⟨z, hz, rfl⟩ := Option.map_eq_some_iff.1 hy
          have hjl := (List.getElem?_eq_some_iff.1 hz).1
          refine ⟨z, hz, ?_⟩
          by_cases e1 : j = i.toNat
          · rw [if_pos e1, if_pos e1]; exact ⟨rfl, rfl, rfl, rfl⟩
          · rw [if_neg e1, if_neg e1]
            by_cases e2 : i.toNat < j
            · rw [if_pos ⟨e2, hjl⟩, if_pos e2]; exact ⟨rfl, rfl, rfl, rfl⟩
            · rw [if_neg (fun q => e2 q.1), if_neg e2]; exact ⟨rfl, rfl, rfl, rfl⟩
        refine ⟨fun e he => ?_, hR.uq.nm (rsL_nm _ _ _ _), fun j y p hy hp hn => ?_⟩
        · obtain ⟨j, hj⟩ := List.getElem?_of_mem he
          obtain ⟨z, hz, q1, q2, q3, _⟩ := hat j e hj
          rw [q1, q2, q3]; exact hR.chk z (List.mem_of_getElem? hz)
        · obtain ⟨y', hy', _, _, _, q1⟩ := hat _ y hy
          obtain ⟨p', hp', _, _, _, q2⟩ := hat _ p hp
          rw [q1] at hn ⊢; rw [q2]
          by_cases e1 : j + 1 = i.toNat
          · rw [if_pos e1] at hn ⊢
            rw [if_neg (by omega), if_neg (by omega)]
            rw [← e1] at k6
            exact bad_pre k6 hp' hn
          · rw [if_neg e1] at hn ⊢
            by_cases e2 : i.toNat < j + 1
            · rw [if_pos e2] at hn; exact absurd rfl hn
            · rw [if_neg e2] at hn ⊢
              rw [if_neg (by omega), if_neg (by omega)]
              exact hR.up j y' p' hy' hp' hn
    · rw [setL_nw h0' h1]
      have hT := hR.take i.toNat
      have hlen : (L.take i.toNat).length = i.toNat := by rw [List.length_take]; omega
      refine ⟨fun e he => ?_, hT.uq.snoc k5, fun j y p hy hp hn => ?_⟩
      · rw [List.mem_append, List.mem_singleton] at he
        rcases he with he | rfl; exact hT.chk e he; exact k3
      · have hjl := (List.getElem?_eq_some_iff.1 hy).1
        rw [List.length_append, hlen] at hjl
        simp at hjl
        by_cases e1 : j + 1 < i.toNat
        · rw [List.getElem?_append_left (by omega)] at hy hp
          exact hT.up j y p hy hp hn
        · have e2 : j + 1 = i.toNat := by omega
          rw [List.getElem?_append_right (by omega), hlen, e2, Nat.sub_self] at hy
          simp at hy; subst hy
          rw [List.getElem?_append_left (by omega), List.getElem?_take, if_pos (by omega)] at hp
          rw [← e2] at k6
          exact bad_pre k6 hp hn
theorem stN_at : ∀ {L : List EntT} {j : Nat} {y : EntT}, j < stN L → L[j]? = some y → y.ts ≠ 0
  | [], j, y, h, hy => by simp at hy
  | e :: r, j, y, h, hy => by
    unfold stN at h
    rw [List.takeWhile_cons] at h
    by_cases he : e.ts ≠ 0
    · rw [if_pos (by simpa using he)] at h
      cases j with
      | zero => simp at hy; subst hy; exact he
      | succ j => simp at hy; exact stN_at (L := r) (by unfold stN; simpa using h) hy
    · rw [if_neg (by simpa using he)] at h; simp at h
theorem stN_zero : ∀ {L : List EntT} {y : EntT}, L[stN L]? = some y → y.ts = 0
  | [], y, hy => by simp at hy
  | e :: r, y, hy => by
    unfold stN at hy
    rw [List.takeWhile_cons] at hy
    by_cases he : e.ts ≠ 0
    · rw [if_pos (by simpa using he)] at hy
      rw [List.length_cons, List.getElem?_cons_succ] at hy; exact stN_zero (L := r) (by unfold stN; exact hy)
    · rw [if_neg (by simpa using he)] at hy; simp at hy; subst hy; omega
theorem stE_0 (h : stE L i ts = 0) : 0 ≤ i ∧ i < (L.length : Int) ∧ ts ≠ 0 ∧ i = ((stN L : Nat) : Int) ∧ lastT L < ts := by
  unfold stE at h
  split at h
  · cases h
  · split at h
    · cases h
    · split at h
      · cases h
      · rename_i h1 h2 h3; refine ⟨by omega, by omega, h2, by omega, by omega⟩
theorem RI.st (hR : RI L) : RI (stL L i ts) := by
  by_cases h0 : stE L i ts ≠ 0
  · rw [stL_no h0]; exact hR
  · have h0' : stE L i ts = 0 := by omega
    obtain ⟨k1, k2, k3, k4, k5⟩ := stE_0 h0'
    have hi : i.toNat = stN L := by omega
    have hil : i.toNat < L.length := by omega
    have hy0 := List.getElem?_eq_getElem hil
    rw [stL_ok h0' hy0]
    have hat : ∀ j y, (L.set i.toNat { L[i.toNat] with ts := ts })[j]? = some y → ∃ z, L[j]? = some z ∧ y.client = z.client ∧ y.req = z.req ∧ y.opl = z.opl ∧ y.ts = if j = i.toNat then ts else z.ts := by
      intro j y hy
      rw [List.getElem?_set] at hy
      by_cases e1 : i.toNat = j
      · subst e1
        rw [if_pos rfl, if_pos hil] at hy
        simp only [Option.some.injEq] at hy
        subst hy
        exact ⟨_, hy0, rfl, rfl, rfl, by rw [if_pos rfl]⟩
      · rw [if_neg e1] at hy
        exact ⟨y, hy, rfl, rfl, rfl, by rw [if_neg (fun q => e1 q.symm)]⟩
    refine ⟨fun e he => ?_, hR.uq.nm ?_, fun j y p hy hp hn => ?_⟩
    · obtain ⟨j, hj⟩ := List.getElem?_of_mem he
      obtain ⟨z, hz, q1, q2, q3, _⟩ := hat j e hj
      rw [q1, q2, q3]; exact hR.chk z (List.mem_of_getElem? hz)
    · rw [← stL_ok h0' hy0]; exact stL_nm
    · obtain ⟨y', hy', _, _, _, q1⟩ := hat _ y hy
      obtain ⟨p', hp', _, _, _, q2⟩ := hat _ p hp
      rw [q1] at hn ⊢; rw [q2]
      by_cases e1 : j + 1 = i.toNat
      · rw [if_pos e1, if_neg (by omega)]
        refine ⟨stN_at (L := L) (by omega) hp', ?_⟩
        rw [show p'.ts = lastT L from lastT_at (j := j) (by omega) (by omega) hp']; exact k5
      · rw [if_neg e1] at hn ⊢
        by_cases e2 : j = i.toNat
        · exfalso
          have h1 := hR.up j y' p' hy' hp' hn
          rw [e2, hi] at hp'
          exact h1.1 (stN_zero hp')
        · rw [if_neg e2]; exact hR.up j y' p' hy' hp' hn
theorem lT_same {h : Int} {T : List EntT} {j : Nat} {y : EntT} (hy : (lT h T)[j]? = some y) : ∃ z, T[j]? = some z ∧ y.client = z.client ∧ y.req = z.req ∧ y.ts = z.ts ∧ ∃ f, y.opl = kpL f z.opl := by
  have hl := (List.getElem?_eq_some_iff.1 hy).1
  rw [lT_len] at hl
  have := lT_at (h := h) (List.getElem?_eq_getElem hl)
  rw [hy] at this
  simp only [Option.some.injEq] at this
  refine ⟨_, List.getElem?_eq_getElem hl, ?_⟩
  subst this
  split
  · exact ⟨rfl, rfl, rfl, _, rfl⟩
  · exact ⟨rfl, rfl, rfl, fun _ => 0, (kpL_id _).symm⟩
theorem thL_same {j : Nat} {y : EntT} (hy : (thL L h n)[j]? = some y) : ∃ z, L[j]? = some z ∧ y.client = z.client ∧ y.req = z.req ∧ y.ts = z.ts ∧ ∃ f, y.opl = kpL f z.opl := by
  unfold thL at hy
  have hM := thM_le L n
  by_cases hj : j < thM L n
  · rw [List.getElem?_append_left (by rw [lT_len, List.length_take]; omega)] at hy
    obtain ⟨z, hz, q⟩ := lT_same hy
    rw [List.getElem?_take, if_pos hj] at hz
    exact ⟨z, hz, q⟩
  · rw [List.getElem?_append_right (by rw [lT_len, List.length_take]; omega), lT_len, List.length_take, List.getElem?_drop, show thM L n + (j - min (thM L n) L.length) = j by omega] at hy
    exact ⟨y, hy, rfl, rfl, rfl, fun _ => 0, (kpL_id _).symm⟩
theorem thL_len : (thL L h n).length = L.length := by unfold thL; have := thM_le L n; rw [List.length_append, lT_len, List.length_take, List.length_drop]; omega
theorem thL_nm : (thL L h n).map nmE = L.map nmE := by
  apply List.ext_getElem?
  intro j
  rw [List.getElem?_map, List.getElem?_map]
  cases hj : (thL L h n)[j]? with
  | none =>
    rw [List.getElem?_eq_none_iff, thL_len] at hj
    rw [List.getElem?_eq_none hj]
  | some y => obtain ⟨z, hz, q1, q2, _⟩ := thL_same hj; rw [hz]; simp [nmE, q1, q2]
theorem RI.th (hR : RI L) : RI (thL L h n) := by
  refine ⟨fun e he => ?_, hR.uq.nm thL_nm, fun j y p hy hp hn => ?_⟩
  · obtain ⟨j, hj⟩ := List.getElem?_of_mem he
    obtain ⟨z, hz, q1, q2, _, f, q4⟩ := thL_same hj
    rw [q1, q2, q4]; exact chkB_kp f (hR.chk z (List.mem_of_getElem? hz))
  · obtain ⟨y', hy', _, _, q1, _⟩ := thL_same hy
    obtain ⟨p', hp', _, _, q2, _⟩ := thL_same hp
    rw [q1] at hn ⊢; rw [q2]; exact hR.up j y' p' hy' hp' hn
end


section
variable {L : List EntT} {i c r ts n h : Int} {l : List OpT}
theorem nm_e0 (L : List EntT) : (L.map e0).map nmE = L.map nmE := by rw [List.map_map]; rfl
theorem take_e0 (L : List EntT) (k : Nat) : (L.map e0).take k = (L.take k).map e0 := (List.map_take ..).symm
theorem badT_e0 (L : List EntT) (e : EntT) : badT (L.map e0) e = badT L e := by
  unfold badT
  rw [List.getLast?_map]
  cases L.getLast? <;> rfl
theorem setE_e0 : setE (L.map e0) i c r l ts = setE L i c r l ts := by
  unfold setE
  rw [List.length_map, take_e0, findN_nm (nm_e0 _), badT_e0]
theorem at_e0 (L : List EntT) (k : Nat) : ((L.map e0)[k]?).map nmE = (L[k]?).map nmE := by rw [List.getElem?_map]; cases L[k]? <;> rfl
theorem rsL_e0 (L : List EntT) (k : Nat) (t : Int) (q : Nat) : (rsL (L.map e0) k t q).map e0 = (rsL L k t q).map e0 := by
  apply List.ext_getElem?
  intro j
  simp only [rsL, List.getElem?_map, List.getElem?_mapIdx]
  cases L[j]? with
  | none => rfl
  | some e => simp only [Option.map_some]; split; rfl; split <;> rfl
theorem e0_e0 (L : List EntT) : (L.map e0).map e0 = L.map e0 := by rw [List.map_map]; rfl
theorem restF_e0 (L : List EntT) (k : Nat) (t : Int) : (restF (L.map e0) k t).map e0 = (restF L k t).map e0 := by
  unfold restF
  have hg : ((L.map e0).getD k default).ts = (L.getD k default).ts := by
    rw [List.getD_eq_getElem?_getD, List.getD_eq_getElem?_getD, List.getElem?_map]; cases L[k]? <;> rfl
  rw [hg, List.length_map]
  split
  · exact e0_e0 L
  · exact rsL_e0 _ _ _ _
theorem setL_e0 : (setL (L.map e0) i c r l ts).map e0 = (setL L i c r l ts).map e0 := by
  unfold setL
  rw [setE_e0, at_e0]
  split
  · exact e0_e0 L
  · split
    · exact restF_e0 _ _ _
    · rw [take_e0, List.map_append, List.map_append, e0_e0]
theorem stN_e0 (L : List EntT) : stN (L.map e0) = stN L := by
  unfold stN
  rw [List.takeWhile_map, List.length_map]; rfl
theorem lastT_e0 (L : List EntT) : lastT (L.map e0) = lastT L := by
  unfold lastT
  rw [stN_e0]
  split
  · rfl
  · rw [List.getD_eq_getElem?_getD, List.getD_eq_getElem?_getD, List.getElem?_map]; cases L[stN L - 1]? <;> rfl
theorem stE_e0 : stE (L.map e0) i ts = stE L i ts := by unfold stE; rw [List.length_map, stN_e0, lastT_e0]
theorem stL_e0' : (stL (L.map e0) i ts).map e0 = (stL L i ts).map e0 := by
  unfold stL; rw [stE_e0]; split
  · exact rsL_e0 _ _ _ _
  · exact e0_e0 L
theorem fT_e0 (h : Int) : ∀ L : List EntT, fT h (L.map e0) = fT h L
  | [] => rfl
  | e :: r => by funext k; simp only [List.map_cons, fT]; rw [fT_e0 h r]; rfl
theorem lT_e0 (h : Int) : ∀ L : List EntT, (lT h (L.map e0)).map e0 = (lT h L).map e0
  | [] => rfl
  | e :: r => by
    simp only [List.map_cons, lT]
    rw [lT_e0 h r, fT_e0 h r]
    congr 1
    show e0 (if ltE h e = true then _ else _) = _
    split <;> rfl
theorem gT_e0 (h : Int) : ∀ L : List EntT, gT h (L.map e0) = gT h L
  | [] => rfl
  | e :: r => by
    simp only [List.map_cons, gT]
    rw [gT_e0 h r, fT_e0 h r]; rfl
theorem thM_e0 (L : List EntT) (n : Int) : thM (L.map e0) n = thM L n := by unfold thM; rw [List.length_map]
theorem thL_e0 : (thL (L.map e0) h n).map e0 = (thL L h n).map e0 := by
  unfold thL
  rw [thM_e0, List.map_append, List.map_append, take_e0, lT_e0, ← List.map_drop, e0_e0]
theorem thG_e0 : thG (L.map e0) h n = thG L h n := by unfold thG; rw [thM_e0, take_e0, gT_e0]
variable {A B : List EntT}
theorem cong_n {α : Type} {F : List EntT → α} (hF : ∀ L, F (L.map e0) = F L) (h : A.map e0 = B.map e0) : F A = F B := by rw [← hF A, h, hF]
end

end Go.Proofs.Ytniojcnkjehflaa
