/- The document's log: Set. Conditions: at most 100 entries, 20 operations each. -/
import Derived.Test.YthmnndbpadegnaaRlgT
namespace Go.Proofs.Ythmnndbpadegnaa
open Go.RowKit Go.PlainAid
set_option linter.unusedVariables false


theorem entE_oneK {S : Nat → Prop} {n : Nat} {w : World} {e : EntT} (h : EntK S n w e) : ∀ u ∈ entE e, u.oneCell' = true := by
  intro u hu
  simp [entE] at hu
  rcases hu with rfl | rfl | rfl | rfl
  · rfl
  · rfl
  · exact row_one h.row
  · rfl
/-- What Set makes of the entries, as far as anybody sees. -/
def setL (L : List EntT) (i c r : Int) (l : List OpT) (ts : Int) : List EntT :=
  if setE L i c r l ts ≠ 0 then L else if (L[i.toNat]?).map nmE = some (c, r) then restF L i.toNat ts else L.take i.toNat ++ [EntT.mk c r (.slice none 0 0) l ts]
def clL (L : List EntT) (i k : Nat) : List EntT := L.mapIdx fun j e => if i < j ∧ j < k then { e with ts := 0 } else e
section
variable {L Lk X Mk : List EntT} {i k : Nat} {y y0 : EntT} {q : Int × Int} {c r ts : Int} {l : List OpT} {n : Int}
theorem findN_hit (h : L[k]? = some y) (e : nmE y = q) (hk : k < i) : (findN (L.take i) q).isSome = true := by
  cases hf : findN (L.take i) q with
  | some _ => rfl
  | none => exact absurd e (findN_none.1 hf y (List.mem_of_getElem? (i := k) (by rw [List.getElem?_take, if_pos hk]; exact h)))
theorem findN_next (h0 : findN (L.take k) q = none) (hy : L[k]? = some y) (hn : ¬ nmE y = q) : findN (L.take (k + 1)) q = none := by
  rw [takeE hy, findN_app]; exact h0
  intro z hz e; simp at hz; subst hz; exact hn e
theorem clL_0 (L : List EntT) (i : Nat) : clL L i (i + 1) = L := by
  apply List.ext_getElem?
  intro j
  simp only [clL, List.getElem?_mapIdx]
  cases L[j]? with
  | none => rfl
  | some e => simp only [Option.map_some]; rw [if_neg (by omega)]
theorem clL_len (L : List EntT) (i k : Nat) : (clL L i k).length = L.length := by simp [clL]
theorem clL_step (h : Mk.map e0 = (clL X i k).map e0) (hy : Mk[k]? = some y) (hik : i < k) : (Mk.set k { y with ts := 0 }).map e0 = (clL X i (k + 1)).map e0 := by
  obtain ⟨z, hz, he⟩ := e0_at h hy
  have hz' := hz
  simp only [clL, List.getElem?_mapIdx] at hz'
  rw [Option.map_eq_some_iff] at hz'
  obtain ⟨x, hx, hxz⟩ := hz'
  rw [if_neg (by omega)] at hxz
  subst hxz
  rw [List.map_set, h, show e0 { y with ts := 0 } = e0 { x with ts := 0 } from (e0_with he).symm, ← List.map_set]
  congr 1
  apply List.ext_getElem?
  intro j
  rw [List.getElem?_set]
  by_cases e1 : k = j
  · subst e1
    rw [if_pos rfl, if_pos (by rw [clL_len]; exact (List.getElem?_eq_some_iff.1 hx).1)]
    simp only [clL, List.getElem?_mapIdx, hx, Option.map_some]
    rw [if_pos ⟨hik, by omega⟩]
  · rw [if_neg e1]
    simp only [clL, List.getElem?_mapIdx]
    cases X[j]? with
    | none => rfl
    | some e =>
      simp only [Option.map_some]
      by_cases e3 : i < j ∧ j < k
      · rw [if_pos e3, if_pos ⟨e3.1, by omega⟩]
      · rw [if_neg e3, if_neg (by omega)]
theorem clL_i (L : List EntT) (i k : Nat) : (clL L i k)[i]? = L[i]? := by
  simp only [clL, List.getElem?_mapIdx]
  cases L[i]? with
  | none => rfl
  | some e => simp
theorem clL_ts (h : Mk.map e0 = (clL X i k).map e0) (hy : Mk[i]? = some y) (hy0 : X[i]? = some y0) : y.ts = y0.ts := by
  obtain ⟨z, hz, he⟩ := e0_at h hy
  rw [clL_i, hy0] at hz; cases hz
  exact (e0_ts he).1.symm
theorem clL_end (h : Mk.map e0 = (clL X i k).map e0) (hy : Mk[i]? = some y) (hy0 : X[i]? = some y0) (hk : X.length ≤ k ∨ y0.ts = ts) (h2 : k = i + 1 ∨ ¬ y0.ts = ts) (hlt : i < k) : (Mk.set i { y with ts := ts }).map e0 = (restF X i ts).map e0 := by
  obtain ⟨z, hz, he⟩ := e0_at h hy
  rw [clL_i, hy0] at hz; cases hz
  rw [List.map_set, h, show e0 { y with ts := ts } = e0 { y0 with ts := ts } from (e0_with he).symm, ← List.map_set]
  congr 1
  by_cases e : y0.ts = ts
  · have : k = i + 1 := by rcases h2 with q | q; exact q; exact absurd e q
    subst this
    rw [clL_0, restF_same hy0 e, ← e]
    apply List.ext_getElem?
    intro j
    rw [List.getElem?_set]
    by_cases e1 : i = j
    · subst e1; rw [if_pos rfl, if_pos (List.getElem?_eq_some_iff.1 hy0).1, hy0]
    · rw [if_neg e1]
  · rw [← restF_ne hy0 e (k := k) (by rcases hk with q | q; exact q; exact absurd q e)]
    apply List.ext_getElem?
    intro j
    rw [List.getElem?_set]
    by_cases e1 : i = j
    · subst e1
      rw [if_pos rfl, if_pos (by rw [clL_len]; exact (List.getElem?_eq_some_iff.1 hy0).1)]
      simp only [rsL, List.getElem?_mapIdx, hy0, Option.map_some]
      simp
    · rw [if_neg e1]
      simp only [rsL, clL, List.getElem?_mapIdx]
      cases X[j]? with
      | none => rfl
      | some e => simp only [Option.map_some]; rw [if_neg (show ¬ j = i from fun q => e1 q.symm)]
theorem setE_h (h : ¬ (n < 0 ∨ (L.length : Int) < n)) (hc : ¬ chkB c r l ≠ 0) (h6 : ¬ 100 ≤ n) (hb : (findN (L.take n.toNat) (c, r)).isSome = true) : setE L n c r l ts = 18 := by unfold setE; rw [if_neg h, if_neg hc, if_neg h6, if_pos hb]
theorem setL_no (h : setE L n c r l ts ≠ 0) : setL L n c r l ts = L := by unfold setL; rw [if_pos h]
theorem setL_tw (h : setE L n c r l ts = 0) (h2 : (L[n.toNat]?).map nmE = some (c, r)) : setL L n c r l ts = restF L n.toNat ts := by unfold setL; rw [if_neg (by rw [h]; simp), if_pos h2]
theorem setL_nw (h : setE L n c r l ts = 0) (h2 : ¬ (L[n.toNat]?).map nmE = some (c, r)) : setL L n c r l ts = L.take n.toNat ++ [EntT.mk c r (.slice none 0 0) l ts] := by unfold setL; rw [if_neg (by rw [h]; simp), if_neg h2]
theorem setR_e0 {L' : List EntT} (h : SetR L n c r l ts L') : L'.map e0 = (setL L n c r l ts).map e0 := by
  rcases h with ⟨h1, rfl⟩ | ⟨h1, ⟨h2, rfl⟩ | ⟨h2, v, rfl⟩⟩
  · rw [setL_no h1]
  · rw [setL_tw h1 h2]
  · rw [setL_nw h1 h2]; simp [e0]
theorem nm_y (hy : L[i]? = some y) (h : y.client = c ∧ y.req = r) : (L[i]?).map nmE = some (c, r) := by
  rw [hy]; simp [nmE, h.1, h.2]
theorem nm_n (hy : L[i]? = some y) (h : ¬ (y.client = c ∧ y.req = r)) : ¬ (L[i]?).map nmE = some (c, r) := by
  rw [hy]; simp [nmE] at h ⊢; exact h
theorem nm_o (h : L.length ≤ i) : ¬ (L[i]?).map nmE = some (c, r) := by rw [List.getElem?_eq_none h]; simp
theorem nmE_y (h : y.client = c ∧ y.req = r) : nmE y = (c, r) := by simp [nmE, h.1, h.2]
theorem nmE_n (h : ¬ (y.client = c ∧ y.req = r)) : ¬ nmE y = (c, r) := by simp [nmE] at h ⊢; exact h
theorem setL_new {A C : List EntT} {v : Value} (h : setE X n c r l ts = 0) (h2 : ¬ (X[n.toNat]?).map nmE = some (c, r)) (hA : A.map e0 = (X.take n.toNat).map e0) (hC : C.map e0 = ([EntT.mk c r v l ts] : List EntT).map e0) : (A ++ C).map e0 = (setL X n c r l ts).map e0 := by
  rw [setL_nw h h2, List.map_append, List.map_append, hA, hC]; simp [e0]
end
theorem EntsK.app {S : Nat → Prop} {n : Nat} {w : World} {A B : List EntT} (h : EntsK S n w A) (k : EntsK S n w B) : EntsK S n w (A ++ B) := fun e he => by
  rw [List.mem_append] at he; rcases he with q | q; exact h e q; exact k e q

set_option maxRecDepth 100000 in
set_option maxHeartbeats 1600000 in
theorem rSet17_any (w0 : World) (S : Nat → Prop) (b : Nat) (u : Value) (X : List EntT) (i : Int) (c : Int) (r : Int) (v : Value) (l : List OpT) (ts : Int) (w : World) (hbw : But S w0 w) (hO : RgP S w0.heap.size w b u X) (hs : SliceOf opE 3 w0 v l) (hvS : l ≠ [] → ∀ k, v.ownBlock = some k → ¬ S k) (hlen : l.length ≤ 20) (hts : 0 ≤ ts ∧ ts < 18446744073709551616) (hen : (∀ o ∈ l, opOk o) ∧ (Lit.int .i64 c).wf = true ∧ (Lit.int .i64 r).wf = true) :
    Calls Try.prog 76 #[pt b 0, .int .i64 i, .agg #[.int .i64 c, .int .i64 r, v, .int .u64 ts]] w fun e w' => ∃ (u' : Value) (X' : List EntT), e = .returned (.int .i64 (setE X i c r l ts)) ∧ RgP S w0.heap.size w' b u' X' ∧ X'.map e0 = (setL X i c r l ts).map e0 ∧ But (S) w0 w' := by
 have hB0 := hbw
 have hz0 := hbw.size
 have hz0 := hbw.size
 have hl1 := hO.blk.lt; have hln2 := hO.len
 have hln0 := sl_len hs
 rcases Int.lt_or_le i 0 with hneg | hpos
 · skip
   refine co_enter (n := 145) Try.func76 rfl rfl rfl [(0, pt b 0), (1, .int .i64 i), (2, .agg #[.int .i64 c, .int .i64 r, v, .int .u64 ts])] rfl (fun a h0 => ?_)
   refine co_seq ?_
   refine co_reg ?_
   refine pw h0 rfl (op_new (v := fun N => pt N 0) (T := 47) (cs := #[.int .i64 c, .int .i64 r, v, .int .u64 ts]) (by kernel_rfl) (by kernel_rfl) (by kernel_rfl)) ?_; clear h0
   rintro _ w4 a3 ⟨N5, rfl, hN8, hz9, hk7, hg6⟩ h3
   have ha10 := row_fresh hO.row hN8
   have hu11 := row_under hO.row hN8
   have hz12 := hg6.size
   try dsimp only at h3
   refine pk0 (v := .int .i64 0) h3 rfl fun a13 h13 => ?_; clear h3
   refine pl_nil ?_
   refine co_then ?_
   refine co_seq ?_
   refine co_seq ?_
   refine co_reg ?_
   refine pk0 (v := .int .i64 i) h13 rfl fun a14 h14 => ?_; clear h13
   refine pk0 (v := .bool (decide (i < 0))) h14 rfl fun a15 h15 => ?_; clear h14
   refine pk0 (v := .bool (decide (i < 0))) h15 rfl fun a16 h16 => ?_; clear h15
   have hc17 : (decide (i < 0)) = true := decide_eq_true (by omega)
   rw [hc17] at h16; clear hc17
   refine psk h16 rfl fun a18 h18 => ?_; clear h16
   refine psk h18 rfl fun a19 h19 => ?_; clear h18
   refine psk h19 rfl fun a20 h20 => ?_; clear h19
   refine psk h20 rfl fun a21 h21 => ?_; clear h20
   refine psk h21 rfl fun a22 h22 => ?_; clear h21
   refine psk h22 rfl fun a23 h23 => ?_; clear h22
   refine psk h23 rfl fun a24 h24 => ?_; clear h23
   refine pk0 (v := .bool true) h24 rfl fun a25 h25 => ?_; clear h24
   refine pl_nil ?_
   refine co_then ?_
   refine co_true h25 rfl ?_
   refine co_seq ?_
   refine co_reg ?_
   refine pk0 (v := .int .i64 1) h25 rfl fun a26 h26 => ?_; clear h25
   refine pl_nil ?_
   refine co_then ?_
   refine wp_ret ?_
   refine co_thenR ?_
   refine co_ret1 h26 rfl rfl ?_
   have hr27 := row_kept_new hO.row hg6
   have hE28 := hO.ents.new hg6
   have hk29 := hO.blk.kept hg6 (by simp)
   have hB30 := fbU_new hB0 hg6
   have hE : setE X i c r l ts = 1 := setE_a (by omega)
   exact ⟨_, _, ret_int hE.symm, ⟨hk29, hr27, hE28, hO.sb, hO.su, hO.len⟩, by rw [setL_no (by rw [hE]; omega)], hB30⟩
 · obtain ⟨j, rfl⟩ : ∃ j : Nat, i = (j : Int) := ⟨i.toNat, by omega⟩
   refine co_enter (n := 145) Try.func76 rfl rfl rfl [(0, pt b 0), (1, .int .i64 ((j : Nat) : Int)), (2, .agg #[.int .i64 c, .int .i64 r, v, .int .u64 ts])] rfl (fun a h0 => ?_)
   refine co_seq ?_
   refine co_reg ?_
   refine pw h0 rfl (op_new (v := fun N => pt N 0) (T := 47) (cs := #[.int .i64 c, .int .i64 r, v, .int .u64 ts]) (by kernel_rfl) (by kernel_rfl) (by kernel_rfl)) ?_; clear h0
   rintro _ w32 a31 ⟨N33, rfl, hN36, hz37, hk35, hg34⟩ h31
   have ha38 := row_fresh hO.row hN36
   have hu39 := row_under hO.row hN36
   have hz40 := hg34.size
   try dsimp only at h31
   refine pk0 (v := .int .i64 0) h31 rfl fun a41 h41 => ?_; clear h31
   refine pl_nil ?_
   refine co_then ?_
   refine co_seq ?_
   refine co_seq ?_
   refine co_reg ?_
   refine pk0 (v := .int .i64 ((j : Nat) : Int)) h41 rfl fun a42 h42 => ?_; clear h41
   refine pk0 (v := .bool (decide (((j : Nat) : Int) < 0))) h42 rfl fun a43 h43 => ?_; clear h42
   refine pk0 (v := .bool (decide (((j : Nat) : Int) < 0))) h43 rfl fun a44 h44 => ?_; clear h43
   have hc45 : (decide (((j : Nat) : Int) < 0)) = false := decide_eq_false (by omega)
   rw [hc45] at h44; clear hc45
   refine pk0 (v := .int .i64 ((j : Nat) : Int)) h44 rfl fun a46 h46 => ?_; clear h44
   refine pk0 (v := pt b 0) h46 rfl fun a47 h47 => ?_; clear h46
   refine pk0 (v := pt b 0) h47 rfl fun a48 h48 => ?_; clear h47
   refine pk0 (v := pt b 0) h48 rfl fun a49 h49 => ?_; clear h48
   have hk50 := hO.blk.kept hg34 (by simp)
   refine pk (v := u) h49 rfl (rn_load1 rfl rfl Try.isAgg39 (hk50.cell rfl)) fun a51 h51 => ?_; clear h49
   have hr52 := row_kept_new hO.row hg34
   refine pk (v := .int .i64 ((X.length : Nat) : Int)) h51 rfl (rn_lenOwn rfl rfl Try.underlying39 hr52) fun a53 h53 => ?_; clear h51
   refine pk0 (v := .bool (decide (((j : Nat) : Int) > ((X.length : Nat) : Int)))) h53 rfl fun a54 h54 => ?_; clear h53
   refine pk0 (v := .bool (decide (((j : Nat) : Int) > ((X.length : Nat) : Int)))) h54 rfl fun a55 h55 => ?_; clear h54
   refine pl_nil ?_
   refine co_then ?_
   have hB57 := fbU_new hB0 hg34
   cases hc56 : (decide (((j : Nat) : Int) > ((X.length : Nat) : Int)))
   ·
    rw [hc56] at h55
    have hp58 : ¬ (((j : Nat) : Int) > ((X.length : Nat) : Int)) := of_decide_eq_false hc56
    clear hc56
    refine co_false h55 rfl ?_
    refine wp_skip ?_
    refine co_then ?_
    refine co_seq ?_
    refine co_seq ?_
    refine co_reg ?_
    refine pk (v := .agg #[.int .i64 c, .int .i64 r, v, .int .u64 ts]) h55 rfl (rn_loadN rfl rfl Try.underlying47 rfl (by kernel_rfl) hk35.all) fun a59 h59 => ?_; clear h55
    refine pw h59 rfl (op_call (args := #[.agg #[.int .i64 c, .int .i64 r, v, .int .u64 ts]]) (R := fun res xw => res = .int .i64 (chkB c r l) ∧ Below w32.heap.size w32 xw) rfl rfl rfl (by kernel_rfl) (by kernel_rfl) (Try.call83 _ _) (ritemCheck_any c r v l ts w32 (sl_butN hs hB57 hvS)) (by rintro e x ⟨rfl, hb62⟩; exact ⟨_, rfl, ⟨rfl, hb62⟩⟩)) ?_; clear h59
    rintro _ w61 a60 ⟨rfl, hb62⟩ h60
    have hz63 := hb62.size
    refine pk0 (v := .int .i64 (chkB c r l)) h60 rfl fun a64 h64 => ?_; clear h60
    refine pl_nil ?_
    refine co_then ?_
    refine co_seq ?_
    refine co_reg ?_
    refine pk0 (v := .int .i64 (chkB c r l)) h64 rfl fun a65 h65 => ?_; clear h64
    refine pk0 (v := .bool (chkB c r l != 0)) h65 rfl fun a66 h66 => ?_; clear h65
    refine pl_nil ?_
    refine co_then ?_
    have hB68 := fbU_call hB57 hb62
    have hE69 := hO.ents.new hg34
    have hE70 := hE69.new (below_grown hb62)
    cases hc67 : (chkB c r l != 0)
    ·
     rw [hc67] at h66
     have hp71 : ¬ (chkB c r l ≠ 0) := by first | simpa using hc67 | simpa [and_assoc] using hc67
     clear hc67
     refine co_false h66 rfl ?_
     refine wp_skip ?_
     refine co_then ?_
     refine co_seq ?_
     refine co_seq ?_
     refine co_reg ?_
     refine pk0 (v := .int .i64 ((j : Nat) : Int)) h66 rfl fun a72 h72 => ?_; clear h66
     refine pk0 (v := .bool (decide (((j : Nat) : Int) ≥ 100))) h72 rfl fun a73 h73 => ?_; clear h72
     refine pl_nil ?_
     refine co_then ?_
     cases hc74 : (decide (((j : Nat) : Int) ≥ 100))
     ·
      rw [hc74] at h73
      have hp75 : ¬ (((j : Nat) : Int) ≥ 100) := of_decide_eq_false hc74
      clear hc74
      refine co_false h73 rfl ?_
      refine wp_skip ?_
      refine co_then ?_
      refine co_seq ?_
      refine co_seq ?_
      refine co_reg ?_
      refine pk0 (v := .int .i64 0) h73 rfl fun a76 h76 => ?_; clear h73
      refine pl_nil ?_
      refine co_then ?_
      refine wp_block ?_
      have h77 : Slots 145 [(0, pt b 0), (1, .int .i64 ((j : Nat) : Int)), (5, pt N33 0), (8, .int .i64 0)] _ := h76.sub ⟨rfl, rfl, rfl, rfl, trivial⟩; clear h76
      refine co_loop (fun mm a x => ∃ (k : Nat), Slots 145 [(0, pt b 0), (1, .int .i64 ((j : Nat) : Int)), (5, pt N33 0), (8, .int .i64 ((k : Nat) : Int))] a ∧ mm = j - k ∧ (k ≤ j) ∧ (findN (X.take k) (c, r) = none) ∧ x.ownsRow 0 47 4 u X.length (X.flatMap entE) ∧ EntsK S w0.heap.size x X ∧ But (S) w0 x ∧ Blk x b 41 #[u] ∧ Blk x N33 47 #[.int .i64 c, .int .i64 r, v, .int .u64 ts]) (j - 0) ?_ ?_
      have hr78 := row_kept_new hr52 (below_grown hb62)
      have hk79 := hk50.below hb62
      have hk80 := hk35.below hb62
      · exact ⟨0, h77.sub ⟨rfl, rfl, rfl, (slot_eq rfl (congrArg (Value.int .i64) (by first | rfl | omega))), trivial⟩, rfl, by omega, by first | exact findN_nil _ | exact hfn', hr78, hE70, hB68, hk79, hk80⟩
      · rintro k81 a82 w83 ⟨k, h82, rfl, hi84, hi85, hf86, hf87, hB88, hk89, hk90⟩
        have hz91 := hB88.size
        have hl92 := hk89.lt
        have hl93 := hk90.lt
        refine co_seq ?_
        refine co_seq ?_
        refine co_reg ?_
        refine pk0 (v := .int .i64 ((k : Nat) : Int)) h82 rfl fun a94 h94 => ?_; clear h82
        refine pk0 (v := .int .i64 ((j : Nat) : Int)) h94 rfl fun a95 h95 => ?_; clear h94
        refine pk0 (v := .bool (decide (((k : Nat) : Int) < ((j : Nat) : Int)))) h95 rfl fun a96 h96 => ?_; clear h95
        refine pl_nil ?_
        refine co_then ?_
        cases hc97 : (decide (((k : Nat) : Int) < ((j : Nat) : Int)))
        ·
         rw [hc97] at h96
         have hp98 : ¬ (((k : Nat) : Int) < ((j : Nat) : Int)) := of_decide_eq_false hc97
         clear hc97
         refine co_false h96 rfl ?_
         refine wp_exit ?_
         refine co_thenX ?_
         refine co_thenX ?_
         refine co_blockX ?_
         refine co_then ?_
         refine co_seq ?_
         refine co_cut (fun a x => ∃ (bd : Bool), Slots 145 [(0, pt b 0), (1, .int .i64 ((j : Nat) : Int)), (5, pt N33 0), (75, .bool bd)] a ∧ (badT (X.take ((j : Int)).toNat) (EntT.mk c r (.slice none 0 0) l ts) = bd) ∧ x.ownsRow 0 47 4 u X.length (X.flatMap entE) ∧ EntsK S w0.heap.size x X ∧ Blk x b 41 #[u] ∧ Blk x N33 47 #[.int .i64 c, .int .i64 r, v, .int .u64 ts] ∧ But (S) w0 x) ?_ ?_
         ·
          refine dr_eq (by kernel_rfl) (fun w99 hg100 => ?_)
          have hz101 := hg100.size
          refine dk0 0 (v := pt N33 3) h96 rfl rfl rfl fun a102 h102 => ?_; clear h96
          have hk103 := hk90.kept hg100 (by simp)
          refine dk 1 (v := .int .u64 ts) h102 rfl rfl rfl (fun x hx => by subst hx; exact (rn_load1 rfl rfl Try.isAgg45 (hk103.cell rfl))) fun a104 h104 => ?_; clear h102
          refine dk0 2 (v := .bool (ts != 0)) h104 rfl rfl rfl fun a105 h105 => ?_; clear h104
          refine dk0 3 (v := .bool (ts != 0)) h105 rfl rfl rfl fun a106 h106 => ?_; clear h105
          have hB108 := fbU_new hB88 hg100
          cases hc107 : (ts != 0)
          ·
           rw [hc107] at h106
           have hp109 : ¬ (ts ≠ 0) := by first | simpa using hc107 | simpa [and_assoc] using hc107
           clear hc107
           refine dsk 4 h106 rfl rfl rfl fun a110 h110 => ?_; clear h106
           refine dsk 5 h110 rfl rfl rfl fun a111 h111 => ?_; clear h110
           refine dk0 6 (v := .bool false) h111 rfl rfl rfl fun a112 h112 => ?_; clear h111
           refine dk0 7 (v := .bool false) h112 rfl rfl rfl fun a113 h113 => ?_; clear h112
           refine dsk 8 h113 rfl rfl rfl fun a114 h114 => ?_; clear h113
           refine dsk 9 h114 rfl rfl rfl fun a115 h115 => ?_; clear h114
           refine dsk 10 h115 rfl rfl rfl fun a116 h116 => ?_; clear h115
           refine dsk 11 h116 rfl rfl rfl fun a117 h117 => ?_; clear h116
           refine dsk 12 h117 rfl rfl rfl fun a118 h118 => ?_; clear h117
           refine dsk 13 h118 rfl rfl rfl fun a119 h119 => ?_; clear h118
           refine dsk 14 h119 rfl rfl rfl fun a120 h120 => ?_; clear h119
           refine dsk 15 h120 rfl rfl rfl fun a121 h121 => ?_; clear h120
           refine dsk 16 h121 rfl rfl rfl fun a122 h122 => ?_; clear h121
           refine dsk 17 h122 rfl rfl rfl fun a123 h123 => ?_; clear h122
           refine dsk 18 h123 rfl rfl rfl fun a124 h124 => ?_; clear h123
           refine dsk 19 h124 rfl rfl rfl fun a125 h125 => ?_; clear h124
           refine dsk 20 h125 rfl rfl rfl fun a126 h126 => ?_; clear h125
           refine dsk 21 h126 rfl rfl rfl fun a127 h127 => ?_; clear h126
           refine dsk 22 h127 rfl rfl rfl fun a128 h128 => ?_; clear h127
           refine dsk 23 h128 rfl rfl rfl fun a129 h129 => ?_; clear h128
           refine dsk 24 h129 rfl rfl rfl fun a130 h130 => ?_; clear h129
           refine dsk 25 h130 rfl rfl rfl fun a131 h131 => ?_; clear h130
           refine dsk 26 h131 rfl rfl rfl fun a132 h132 => ?_; clear h131
           refine dsk 27 h132 rfl rfl rfl fun a133 h133 => ?_; clear h132
           refine dsk 28 h133 rfl rfl rfl fun a134 h134 => ?_; clear h133
           refine dsk 29 h134 rfl rfl rfl fun a135 h135 => ?_; clear h134
           refine dsk 30 h135 rfl rfl rfl fun a136 h136 => ?_; clear h135
           refine dsk 31 h136 rfl rfl rfl fun a137 h137 => ?_; clear h136
           refine dk0 32 (v := .bool false) h137 rfl rfl rfl fun a138 h138 => ?_; clear h137
           refine dr_done (by kernel_rfl) ?_
           refine co_then ?_
           have hr139 := row_kept_new hf86 hg100
           have hE140 := hf87.new hg100
           have hk141 := hk89.kept hg100 (by simp)
           exact ⟨false, h138.sub ⟨rfl, rfl, rfl, rfl, trivial⟩, by first | exact bad_ts (by simp only []; omega) | exact badM_0 (by omega), hr139, hE140, hk141, hk103, hB108⟩
          ·
           rw [hc107] at h106
           have hp142 : ts ≠ 0 := by first | simpa using hc107 | simpa [and_assoc] using hc107
           clear hc107
           refine dk0 4 (v := .int .i64 ((j : Nat) : Int)) h106 rfl rfl rfl fun a143 h143 => ?_; clear h106
           refine dk0 5 (v := .bool (decide (((j : Nat) : Int) > 0))) h143 rfl rfl rfl fun a144 h144 => ?_; clear h143
           refine dk0 6 (v := .bool (decide (((j : Nat) : Int) > 0))) h144 rfl rfl rfl fun a145 h145 => ?_; clear h144
           refine dk0 7 (v := .bool (decide (((j : Nat) : Int) > 0))) h145 rfl rfl rfl fun a146 h146 => ?_; clear h145
           cases hc147 : (decide (((j : Nat) : Int) > 0))
           ·
            rw [hc147] at h146
            have hp148 : ¬ (((j : Nat) : Int) > 0) := of_decide_eq_false hc147
            clear hc147
            refine dsk 8 h146 rfl rfl rfl fun a149 h149 => ?_; clear h146
            refine dsk 9 h149 rfl rfl rfl fun a150 h150 => ?_; clear h149
            refine dsk 10 h150 rfl rfl rfl fun a151 h151 => ?_; clear h150
            refine dsk 11 h151 rfl rfl rfl fun a152 h152 => ?_; clear h151
            refine dsk 12 h152 rfl rfl rfl fun a153 h153 => ?_; clear h152
            refine dsk 13 h153 rfl rfl rfl fun a154 h154 => ?_; clear h153
            refine dsk 14 h154 rfl rfl rfl fun a155 h155 => ?_; clear h154
            refine dsk 15 h155 rfl rfl rfl fun a156 h156 => ?_; clear h155
            refine dsk 16 h156 rfl rfl rfl fun a157 h157 => ?_; clear h156
            refine dsk 17 h157 rfl rfl rfl fun a158 h158 => ?_; clear h157
            refine dsk 18 h158 rfl rfl rfl fun a159 h159 => ?_; clear h158
            refine dsk 19 h159 rfl rfl rfl fun a160 h160 => ?_; clear h159
            refine dsk 20 h160 rfl rfl rfl fun a161 h161 => ?_; clear h160
            refine dsk 21 h161 rfl rfl rfl fun a162 h162 => ?_; clear h161
            refine dsk 22 h162 rfl rfl rfl fun a163 h163 => ?_; clear h162
            refine dsk 23 h163 rfl rfl rfl fun a164 h164 => ?_; clear h163
            refine dsk 24 h164 rfl rfl rfl fun a165 h165 => ?_; clear h164
            refine dsk 25 h165 rfl rfl rfl fun a166 h166 => ?_; clear h165
            refine dsk 26 h166 rfl rfl rfl fun a167 h167 => ?_; clear h166
            refine dsk 27 h167 rfl rfl rfl fun a168 h168 => ?_; clear h167
            refine dsk 28 h168 rfl rfl rfl fun a169 h169 => ?_; clear h168
            refine dsk 29 h169 rfl rfl rfl fun a170 h170 => ?_; clear h169
            refine dsk 30 h170 rfl rfl rfl fun a171 h171 => ?_; clear h170
            refine dsk 31 h171 rfl rfl rfl fun a172 h172 => ?_; clear h171
            refine dk0 32 (v := .bool false) h172 rfl rfl rfl fun a173 h173 => ?_; clear h172
            refine dr_done (by kernel_rfl) ?_
            refine co_then ?_
            have hr174 := row_kept_new hf86 hg100
            have hE175 := hf87.new hg100
            have hk176 := hk89.kept hg100 (by simp)
            exact ⟨false, h173.sub ⟨rfl, rfl, rfl, rfl, trivial⟩, by first | exact bad_ts (by simp only []; omega) | exact badM_0 (by omega), hr174, hE175, hk176, hk103, hB108⟩
           ·
            rw [hc147] at h146
            have hp177 : ((j : Nat) : Int) > 0 := of_decide_eq_true hc147
            clear hc147
            refine dk0 8 (v := pt b 0) h146 rfl rfl rfl fun a178 h178 => ?_; clear h146
            refine dk0 9 (v := pt b 0) h178 rfl rfl rfl fun a179 h179 => ?_; clear h178
            refine dk0 10 (v := pt b 0) h179 rfl rfl rfl fun a180 h180 => ?_; clear h179
            have hk181 := hk89.kept hg100 (by simp)
            refine dk 11 (v := u) h180 rfl rfl rfl (fun x hx => by subst hx; exact (rn_load1 rfl rfl Try.isAgg39 (hk181.cell rfl))) fun a182 h182 => ?_; clear h180
            refine dk0 12 (v := .int .i64 ((j : Nat) : Int)) h182 rfl rfl rfl fun a183 h183 => ?_; clear h182
            refine dk 13 (v := .int .i64 (((j : Nat) : Int) - 1)) h183 rfl rfl rfl (fun x hx => by subst hx; exact (rn_arith rfl rfl rfl rfl rfl rfl (IntWalk.i64_in _ (by omega)))) fun a184 h184 => ?_; clear h183
            have hE187 := hf87.new hg100
            have hr193 := row_kept_new hf86 hg100
            obtain ⟨y185, hy185⟩ : ∃ z, X[(((j : Nat) : Int) - 1).toNat]? = some z := ⟨_, List.getElem?_eq_getElem (by first | omega | (simp; done) | (simp; omega))⟩
            have oky185 := (fun (z : EntT) (_ : z ∈ X) => trivial) _ (List.mem_of_getElem? hy185)
            have hy186 := hE187.at hy185
            have hq188 := hy186.ts0; have hq189 := hy186.ts1; have hq190 := hy186.len; have hq191 := wf_i64 hy186.cl; have hq192 := wf_i64 hy186.rq
            refine dk 14 (v := pt (blkOf u) (offOf u + ((((j : Nat) : Int) - 1).toNat) * 4)) h184 rfl rfl rfl (fun x hx => by subst hx; exact (rn_index rfl rfl rfl Try.underlying39 Try.sizeOf47 (row_sl hr193 entE_len) (by omega) (by first | omega | (simp; done) | (simp; omega)))) fun a194 h194 => ?_; clear h184
            refine dk0 15 (v := pt (blkOf u) (offOf u + ((((j : Nat) : Int) - 1).toNat) * 4 + 3)) h194 rfl rfl rfl fun a195 h195 => ?_; clear h194
            refine dk 16 (v := .int .u64 y185.ts) h195 rfl rfl rfl (fun x hx => by subst hx; exact (rn_load1 rfl rfl Try.isAgg45 ((sl_at (row_sl hr193 entE_len) hy185) 3 _ rfl))) fun a196 h196 => ?_; clear h195
            refine dk0 17 (v := .bool (y185.ts == 0)) h196 rfl rfl rfl fun a197 h197 => ?_; clear h196
            refine dk0 18 (v := .bool (y185.ts == 0)) h197 rfl rfl rfl fun a198 h198 => ?_; clear h197
            cases hc199 : (y185.ts == 0)
            ·
             rw [hc199] at h198
             have hp200 : ¬ (y185.ts = 0) := by first | simpa using hc199 | simpa [and_assoc] using hc199
             clear hc199
             refine dk0 19 (v := pt b 0) h198 rfl rfl rfl fun a201 h201 => ?_; clear h198
             refine dk0 20 (v := pt b 0) h201 rfl rfl rfl fun a202 h202 => ?_; clear h201
             refine dk0 21 (v := pt b 0) h202 rfl rfl rfl fun a203 h203 => ?_; clear h202
             refine dk 22 (v := u) h203 rfl rfl rfl (fun x hx => by subst hx; exact (rn_load1 rfl rfl Try.isAgg39 (hk181.cell rfl))) fun a204 h204 => ?_; clear h203
             refine dk0 23 (v := .int .i64 ((j : Nat) : Int)) h204 rfl rfl rfl fun a205 h205 => ?_; clear h204
             refine dk 24 (v := .int .i64 (((j : Nat) : Int) - 1)) h205 rfl rfl rfl (fun x hx => by subst hx; exact (rn_arith rfl rfl rfl rfl rfl rfl (IntWalk.i64_in _ (by omega)))) fun a206 h206 => ?_; clear h205
             refine dk 25 (v := pt (blkOf u) (offOf u + ((((j : Nat) : Int) - 1).toNat) * 4)) h206 rfl rfl rfl (fun x hx => by subst hx; exact (rn_index rfl rfl rfl Try.underlying39 Try.sizeOf47 (row_sl hr193 entE_len) (by omega) (by first | omega | (simp; done) | (simp; omega)))) fun a207 h207 => ?_; clear h206
             refine dk0 26 (v := pt (blkOf u) (offOf u + ((((j : Nat) : Int) - 1).toNat) * 4 + 3)) h207 rfl rfl rfl fun a208 h208 => ?_; clear h207
             refine dk 27 (v := .int .u64 y185.ts) h208 rfl rfl rfl (fun x hx => by subst hx; exact (rn_load1 rfl rfl Try.isAgg45 ((sl_at (row_sl hr193 entE_len) hy185) 3 _ rfl))) fun a209 h209 => ?_; clear h208
             refine dk0 28 (v := pt N33 3) h209 rfl rfl rfl fun a210 h210 => ?_; clear h209
             refine dk 29 (v := .int .u64 ts) h210 rfl rfl rfl (fun x hx => by subst hx; exact (rn_load1 rfl rfl Try.isAgg45 (hk103.cell rfl))) fun a211 h211 => ?_; clear h210
             refine dk0 30 (v := .bool (decide (y185.ts ≥ ts))) h211 rfl rfl rfl fun a212 h212 => ?_; clear h211
             refine dk0 31 (v := .bool (decide (y185.ts ≥ ts))) h212 rfl rfl rfl fun a213 h213 => ?_; clear h212
             refine dk0 32 (v := .bool (decide (y185.ts ≥ ts))) h213 rfl rfl rfl fun a214 h214 => ?_; clear h213
             refine dr_done (by kernel_rfl) ?_
             refine co_then ?_
             exact ⟨(decide (y185.ts ≥ ts)), h214.sub ⟨rfl, rfl, rfl, rfl, trivial⟩, by rw [bad_at (j := (((j : Nat) : Int) - 1).toNat) (by omega) (by omega) hy185]; first | exact decide_eq_false (by simp only []; omega) | exact decide_eq_true (by simp only []; omega) | exact decide_eq_decide.2 (by constructor <;> intro hq <;> simp only [] at hq ⊢ <;> omega), hr193, hE187, hk181, hk103, hB108⟩
            ·
             rw [hc199] at h198
             have hp215 : y185.ts = 0 := by first | simpa using hc199 | simpa [and_assoc] using hc199
             clear hc199
             refine dsk 19 h198 rfl rfl rfl fun a216 h216 => ?_; clear h198
             refine dsk 20 h216 rfl rfl rfl fun a217 h217 => ?_; clear h216
             refine dsk 21 h217 rfl rfl rfl fun a218 h218 => ?_; clear h217
             refine dsk 22 h218 rfl rfl rfl fun a219 h219 => ?_; clear h218
             refine dsk 23 h219 rfl rfl rfl fun a220 h220 => ?_; clear h219
             refine dsk 24 h220 rfl rfl rfl fun a221 h221 => ?_; clear h220
             refine dsk 25 h221 rfl rfl rfl fun a222 h222 => ?_; clear h221
             refine dsk 26 h222 rfl rfl rfl fun a223 h223 => ?_; clear h222
             refine dsk 27 h223 rfl rfl rfl fun a224 h224 => ?_; clear h223
             refine dsk 28 h224 rfl rfl rfl fun a225 h225 => ?_; clear h224
             refine dsk 29 h225 rfl rfl rfl fun a226 h226 => ?_; clear h225
             refine dsk 30 h226 rfl rfl rfl fun a227 h227 => ?_; clear h226
             refine dk0 31 (v := .bool true) h227 rfl rfl rfl fun a228 h228 => ?_; clear h227
             refine dk0 32 (v := .bool true) h228 rfl rfl rfl fun a229 h229 => ?_; clear h228
             refine dr_done (by kernel_rfl) ?_
             refine co_then ?_
             exact ⟨true, h229.sub ⟨rfl, rfl, rfl, rfl, trivial⟩, by rw [bad_at (j := (((j : Nat) : Int) - 1).toNat) (by omega) (by omega) hy185]; first | exact decide_eq_false (by simp only []; omega) | exact decide_eq_true (by simp only []; omega) | exact decide_eq_decide.2 (by constructor <;> intro hq <;> simp only [] at hq ⊢ <;> omega), hr193, hE187, hk181, hk103, hB108⟩
         rintro a230 w231 ⟨bd, h230, hi232, hf233, hf234, hf235, hf236, hB237⟩
         have hz238 := hB237.size
         have hl239 := hf235.lt
         have hl240 := hf236.lt
         cases hc241 : (bd)
         ·
          rw [hc241] at h230
          refine co_false h230 rfl ?_
          refine wp_skip ?_
          refine co_then ?_
          refine co_seq ?_
          refine co_seq ?_
          refine dr_gen (fun x => But (S) w0 x ∧ x.ownsRow 0 47 4 u X.length (X.flatMap entE) ∧ Blk x b 41 #[u] ∧ Blk x N33 47 #[.int .i64 c, .int .i64 r, v, .int .u64 ts]) (by kernel_rfl) (fun w242 hg243 => ?_) (fun w242 hg243 => ?_)
          ·
           have hz244 := hg243.size
           have hB245 := fbU_new hB237 hg243
           have hr246 := row_kept_new hf233 hg243
           have hk247 := hf235.kept hg243 (by simp)
           have hk248 := hf236.kept hg243 (by simp)
           exact ⟨hB245, hr246, hk247, hk248⟩
          have hz249 := hg243.size
          have hB250 := fbU_new hB237 hg243
          have hr251 := row_kept_new hf233 hg243
          have hk252 := hf235.kept hg243 (by simp)
          have hk253 := hf236.kept hg243 (by simp)
          refine dk0 0 (v := .int .i64 ((j : Nat) : Int)) h230 rfl rfl ⟨hB250, hr251, hk252, hk253⟩ fun a254 h254 => ?_; clear h230
          refine dk0 1 (v := pt b 0) h254 rfl rfl ⟨hB250, hr251, hk252, hk253⟩ fun a255 h255 => ?_; clear h254
          refine dk0 2 (v := pt b 0) h255 rfl rfl ⟨hB250, hr251, hk252, hk253⟩ fun a256 h256 => ?_; clear h255
          refine dk0 3 (v := pt b 0) h256 rfl rfl ⟨hB250, hr251, hk252, hk253⟩ fun a257 h257 => ?_; clear h256
          refine dk 4 (v := u) h257 rfl rfl ⟨hB250, hr251, hk252, hk253⟩ (fun x hx => (rn_load1 rfl rfl Try.isAgg39 (hx.2.2.1.cell rfl))) fun a258 h258 => ?_; clear h257
          refine dk 5 (v := .int .i64 ((X.length : Nat) : Int)) h258 rfl rfl ⟨hB250, hr251, hk252, hk253⟩ (fun x hx => (rn_lenOwn rfl rfl Try.underlying39 hx.2.1)) fun a259 h259 => ?_; clear h258
          refine dk0 6 (v := .bool (decide (((j : Nat) : Int) < ((X.length : Nat) : Int)))) h259 rfl rfl ⟨hB250, hr251, hk252, hk253⟩ fun a260 h260 => ?_; clear h259
          refine dk0 7 (v := .bool (decide (((j : Nat) : Int) < ((X.length : Nat) : Int)))) h260 rfl rfl ⟨hB250, hr251, hk252, hk253⟩ fun a261 h261 => ?_; clear h260
          cases hc262 : (decide (((j : Nat) : Int) < ((X.length : Nat) : Int)))
          ·
           rw [hc262] at h261
           have hp263 : ¬ (((j : Nat) : Int) < ((X.length : Nat) : Int)) := of_decide_eq_false hc262
           clear hc262
           refine dsk 8 h261 rfl rfl ⟨hB250, hr251, hk252, hk253⟩ fun a264 h264 => ?_; clear h261
           refine dsk 9 h264 rfl rfl ⟨hB250, hr251, hk252, hk253⟩ fun a265 h265 => ?_; clear h264
           refine dsk 10 h265 rfl rfl ⟨hB250, hr251, hk252, hk253⟩ fun a266 h266 => ?_; clear h265
           refine dsk 11 h266 rfl rfl ⟨hB250, hr251, hk252, hk253⟩ fun a267 h267 => ?_; clear h266
           refine dsk 12 h267 rfl rfl ⟨hB250, hr251, hk252, hk253⟩ fun a268 h268 => ?_; clear h267
           refine dsk 13 h268 rfl rfl ⟨hB250, hr251, hk252, hk253⟩ fun a269 h269 => ?_; clear h268
           refine dsk 14 h269 rfl rfl ⟨hB250, hr251, hk252, hk253⟩ fun a270 h270 => ?_; clear h269
           refine dsk 15 h270 rfl rfl ⟨hB250, hr251, hk252, hk253⟩ fun a271 h271 => ?_; clear h270
           refine dsk 16 h271 rfl rfl ⟨hB250, hr251, hk252, hk253⟩ fun a272 h272 => ?_; clear h271
           refine dk0 17 (v := .bool false) h272 rfl rfl ⟨hB250, hr251, hk252, hk253⟩ fun a273 h273 => ?_; clear h272
           refine dr_done (by kernel_rfl) ?_
           refine co_then ?_
           refine co_false h273 rfl ?_
           refine wp_skip ?_
           refine co_then ?_
           refine co_seq ?_
           refine dr_gen (fun x => But (S) w0 x ∧ x.ownsRow 0 47 4 u X.length (X.flatMap entE) ∧ Blk x N33 47 #[.int .i64 c, .int .i64 r, v, .int .u64 ts]) (by kernel_rfl) (fun w274 hg275 => ?_) (fun w274 hg275 => ?_)
           ·
            have hz276 := hg275.size
            have hB277 := fbU_new hB250 hg275
            have hr278 := row_kept_new hr251 hg275
            have hk279 := hk253.kept hg275 (by simp)
            exact ⟨hB277, hr278, hk279⟩
           have hz280 := hg275.size
           have hB281 := fbU_new hB250 hg275
           have hr282 := row_kept_new hr251 hg275
           have hk283 := hk253.kept hg275 (by simp)
           refine dk0 0 (v := pt b 0) h273 rfl rfl ⟨hB281, hr282, hk283⟩ fun a284 h284 => ?_; clear h273
           refine dk0 1 (v := pt b 0) h284 rfl rfl ⟨hB281, hr282, hk283⟩ fun a285 h285 => ?_; clear h284
           refine dk0 2 (v := pt b 0) h285 rfl rfl ⟨hB281, hr282, hk283⟩ fun a286 h286 => ?_; clear h285
           refine dk0 3 (v := pt b 0) h286 rfl rfl ⟨hB281, hr282, hk283⟩ fun a287 h287 => ?_; clear h286
           refine dk0 5 (v := .int .i64 ((j : Nat) : Int)) h287 rfl rfl ⟨hB281, hr282, hk283⟩ fun a288 h288 => ?_; clear h287
           refine dr_many [4, 8] (by kernel_rfl) (by simp) ⟨?_, ?_, trivial⟩
           ·
            have hk289 := hk252.kept hg275 (by simp)
            refine dr_opVal (i := 4) (v := u) h288 rfl rfl rfl rfl (by kernel_rfl) rfl (rn_load1 rfl rfl Try.isAgg39 (hk289.cell rfl)) ⟨hB281, hr282, hk283⟩ (fun a290 h290 => ?_); clear h288
            refine dk 6 (v := subV u 0 j 4) h290 rfl rfl ⟨hB281, hr282, hk283⟩ (fun x hx => (rn_sliceTo rfl rfl rfl Try.underlying39 Try.sizeOf47 (row_sl hx.2.1 entE_len) (by omega) (by omega))) fun a291 h291 => ?_; clear h290
            refine dr_many [7, 8] (by kernel_rfl) (by simp) ⟨?_, ?_, trivial⟩
            ·
             have hbad : badT (X.take ((j : Int) : Int).toNat) (EntT.mk c r (.slice none 0 0) l ts) = false := by first | exact hi232.trans hc241
             have hkj : k = j := by omega
             have hE := setE_f (i := (j : Int)) (v := .slice none 0 0) (by omega) (by omega) (by omega) (by have hq := (by assumption : findN (X.take k) (c, r) = none); rw [hkj] at hq; exact hq) hbad
             have hE294 := hf234.new hg243
             have hE295 := hE294.new hg275
             refine dr_op (i := 7) h291 rfl rfl rfl rfl (op_call (args := #[subV u 0 j 4]) (R := fun res xw => ∃ L2 : List EntT, ∃ u : Value, res = u ∧ xw.ownsRow w274.heap.size 47 4 u L2.length (L2.flatMap entE) ∧ EntsK (fun _ => False) w274.heap.size xw L2 ∧ L2.map e0 = (X.take j).map e0 ∧ Below w274.heap.size w274 xw) rfl rfl rfl (by kernel_rfl) (by kernel_rfl) (Try.call52 _ _) (rcopy17_any (subV u 0 j 4) (X.take j) w274 (sl_take (row_sl hr282 entE_len) _ (by omega)) (entsK_got (EntsK.take hE295 j)) (fun z hz => ((EntsK.take hE295 j) z hz).len) (by rw [List.length_take]; omega)) (by rintro e x ⟨L2, u, rfl, hq298, hq299, hq300, hb301⟩; exact ⟨_, rfl, ⟨L2, u, rfl, hq298, hq299, hq300, hb301⟩⟩)) ?_ ?_; clear h291
             ·
              rintro u297 w293 ⟨L2296, _, rfl, hq298, hq299, hq300, hb301⟩
              have hu302 := row_under hr282 (rfl : w274.heap.size = _)
              have hz303 := hb301.size
              have hl304 := sl_len (row_sl hq298 entE_len)
              have hE305 : EntsK S w0.heap.size w293 L2296 := EntsK.low hq299 (by omega)
              have hl306 := e0_len hq300; rw [List.length_take] at hl306
              have hB307 := fbU_call hB281 hb301
              have hr308 := row_kept_new hr282 (below_grown hb301)
              have hk309 := hk283.below hb301
              exact ⟨hB307, hr308, hk309⟩
             rintro u297 w293 a292 ⟨L2296, _, rfl, hq298, hq299, hq300, hb301⟩ h292
             have hu302 := row_under hr282 (rfl : w274.heap.size = _)
             have hz303 := hb301.size
             have hl304 := sl_len (row_sl hq298 entE_len)
             have hE305 : EntsK S w0.heap.size w293 L2296 := EntsK.low hq299 (by omega)
             have hl306 := e0_len hq300; rw [List.length_take] at hl306
             have hB307 := fbU_call hB281 hb301
             have hr308 := row_kept_new hr282 (below_grown hb301)
             have hk309 := hk283.below hb301
             refine dr_many [8] (by kernel_rfl) (by simp) ⟨?_, trivial⟩
             ·
              refine dr_opVal (i := 8) (v := .agg #[.int .i64 c, .int .i64 r, v, .int .u64 ts]) h292 rfl rfl rfl rfl (by kernel_rfl) rfl (rn_loadN rfl rfl Try.underlying47 rfl (by kernel_rfl) hk309.all) ⟨hB307, hr308, hk309⟩ (fun a310 h310 => ?_); clear h292
              refine d1 9 h310 rfl rfl (op_new (v := fun N => .slice (some ⟨N, 0, none⟩) 1 1) (T := 47) (cs := #[.int .i64 c, .int .i64 r, v, .int .u64 ts]) (by kernel_rfl) (by kernel_rfl) (by kernel_rfl)) ?_ ?_; clear h310
              ·
               rintro _ w312 ⟨N313, rfl, hN316, hz317, hk315, hg314⟩
               have ha318 := row_fresh hr308 hN316
               have hu319 := row_under hr308 hN316
               have ha320 := row_fresh hq298 hN316
               have hu321 := row_under hq298 hN316
               have hz322 := hg314.size
               have hB323 := fbU_new hB307 hg314
               have hr324 := row_kept_new hr308 hg314
               have hk325 := hk309.kept hg314 (by simp)
               exact ⟨hB323, hr324, hk325⟩
              rintro _ w312 a311 ⟨N313, rfl, hN316, hz317, hk315, hg314⟩ h311
              have ha318 := row_fresh hr308 hN316
              have hu319 := row_under hr308 hN316
              have ha320 := row_fresh hq298 hN316
              have hu321 := row_under hq298 hN316
              have hz322 := hg314.size
              try dsimp only at h311
              have hB323 := fbU_new hB307 hg314
              have hr324 := row_kept_new hr308 hg314
              have hk325 := hk309.kept hg314 (by simp)
              have hr328 := row_of_cells (enc := entE) (sz := 4) ([(EntT.mk c r v l ts)] : List EntT) hk315 (Nat.le_refl _) rfl rfl (by unfold maxLen; simp)
              refine d1 10 h311 rfl rfl (op_call (args := #[.slice (some ⟨N313, 0, none⟩) 1 1]) (R := fun res xw => ∃ L2 : List EntT, ∃ u : Value, res = u ∧ xw.ownsRow w312.heap.size 47 4 u L2.length (L2.flatMap entE) ∧ EntsK (fun _ => False) w312.heap.size xw L2 ∧ L2.map e0 = ([(EntT.mk c r v l ts)] : List EntT).map e0 ∧ Below w312.heap.size w312 xw) rfl rfl rfl (by kernel_rfl) (by kernel_rfl) (Try.call52 _ _) (rcopy17_any (.slice (some ⟨N313, 0, none⟩) 1 1) ([(EntT.mk c r v l ts)] : List EntT) w312 (row_sl hr328 entE_len) (fun z hz => by simp only [List.mem_singleton] at hz; subst hz; exact ⟨sl_butN hs hB323 hvS, hen.1, hts.1, hts.2, hen.2.1, hen.2.2⟩) (fun z hz => by simp only [List.mem_singleton] at hz; subst hz; exact hlen) (by simp)) (by rintro e x ⟨L2, u, rfl, hq331, hq332, hq333, hb334⟩; exact ⟨_, rfl, ⟨L2, u, rfl, hq331, hq332, hq333, hb334⟩⟩)) ?_ ?_; clear h311
              ·
               rintro u330 w327 ⟨L2329, _, rfl, hq331, hq332, hq333, hb334⟩
               have hu335 := row_under hr324 (rfl : w312.heap.size = _)
               have hr337 := row_kept_new hq298 hg314
               have hu336 := row_under hr337 (rfl : w312.heap.size = _)
               have hu338 := row_under hr328 (rfl : w312.heap.size = _)
               have hz339 := hb334.size
               have hl340 := sl_len (row_sl hq331 entE_len)
               have hE341 : EntsK S w0.heap.size w327 L2329 := EntsK.low hq332 (by omega)
               have hl342 : L2329.length = 1 := e0_len hq333
               have hB343 := fbU_call hB323 hb334
               have hr344 := row_kept_new hr324 (below_grown hb334)
               have hk345 := hk325.below hb334
               exact ⟨hB343, hr344, hk345⟩
              rintro u330 w327 a326 ⟨L2329, _, rfl, hq331, hq332, hq333, hb334⟩ h326
              have hu335 := row_under hr324 (rfl : w312.heap.size = _)
              have hr337 := row_kept_new hq298 hg314
              have hu336 := row_under hr337 (rfl : w312.heap.size = _)
              have hu338 := row_under hr328 (rfl : w312.heap.size = _)
              have hz339 := hb334.size
              have hl340 := sl_len (row_sl hq331 entE_len)
              have hE341 : EntsK S w0.heap.size w327 L2329 := EntsK.low hq332 (by omega)
              have hl342 : L2329.length = 1 := e0_len hq333
              have hB343 := fbU_call hB323 hb334
              have hr344 := row_kept_new hr324 (below_grown hb334)
              have hk345 := hk325.below hb334
              have hr352 := row_kept_new hr337 (below_grown hb334)
              refine d1 11 h326 rfl rfl (op_appendSrc rfl w274.heap.size 47 (z := .agg #[.int .i64 0, .int .i64 0, .slice none 0 0, .int .u64 0]) (size := 4) (bytes := 48) Try.underlying39 (by kernel_rfl) rfl rfl rfl hr352 rfl (row_sl hq331 entE_len) (fun y hy => ⟨entE_len y, entE_oneK (hE341 y hy)⟩) (by first | omega | (simp only [List.length_nil, List.length_append, List.length_cons, List.length_take, List.length_drop]; omega)) (by first | omega | (simp only [List.length_nil, List.length_append, List.length_cons, List.length_take, List.length_drop]; omega)) (by omega)) ?_ ?_; clear h326
              ·
               rintro v348 w347 ⟨hr349, hg350⟩
               have hr349' : w347.ownsRow w274.heap.size 47 4 v348 ((L2296 ++ L2329).length) ((L2296 ++ L2329).flatMap entE) := row_app hr349; clear hr349
               have hz353 := hg350.size
               have hk354 := hk289.below hb301
               have hk355 := hk354.kept hg314 (by simp)
               have hk356 := hk355.below hb334
               have hB357 := fbU_row hB343 (InS.low hq298 (by omega)) hg350
               have hr358 := row_kept_ap hr344 hr352 hu302 hg350
               have hk359 := hk345.kept hg350 (row_ne_lt hr352 (by omega))
               exact ⟨hB357, hr358, hk359⟩
              rintro v348 w347 a346 ⟨hr349, hg350⟩ h346
              have hr349' : w347.ownsRow w274.heap.size 47 4 v348 ((L2296 ++ L2329).length) ((L2296 ++ L2329).flatMap entE) := row_app hr349; clear hr349
              have hz353 := hg350.size
              have hk354 := hk289.below hb301
              have hk355 := hk354.kept hg314 (by simp)
              have hk356 := hk355.below hb334
              have hB357 := fbU_row hB343 (InS.low hq298 (by omega)) hg350
              have hr358 := row_kept_ap hr344 hr352 hu302 hg350
              have hk359 := hk345.kept hg350 (row_ne_lt hr352 (by omega))
              refine dk0 12 (v := pt b 0) h346 rfl rfl ⟨hB357, hr358, hk359⟩ fun a360 h360 => ?_; clear h346
              refine dk0 13 (v := pt b 0) h360 rfl rfl ⟨hB357, hr358, hk359⟩ fun a361 h361 => ?_; clear h360
              have hk367 := hk356.kept hg350 (own_neT hr352 hk356 (by decide))
              refine d1D 14 h361 rfl rfl (op_store1 rfl rfl rfl (row_one hr349') Try.sizeOf39 hk367 rfl) ?_ ?_; clear h361
              ·
               rintro _ w363 ⟨hk364, hz365, hg366⟩
               have hk364' : Blk w363 b 41 #[v348] := hk364; clear hk364
               have hz368 := hg366.size
               have hB369 := fbU_at hB357 hg366 (fun hlt => by rcases hO.sb with hq | hq; exact hq; omega)
               have hr370 := row_kept_at hr358 hg366 (own_neT hr358 hk367 (by decide))
               have hk371 := hk359.kept hg366 (by simp; omega)
               exact ⟨hB369, hr370, hk371⟩
              rintro _ w363 a362 ⟨hk364, hz365, hg366⟩ h362
              have hk364' : Blk w363 b 41 #[v348] := hk364; clear hk364
              have hz368 := hg366.size
              refine dr_done (by kernel_rfl) ?_
              refine co_then ?_
              refine co_seq ?_
              refine co_reg ?_
              refine pk0 (v := .int .i64 0) h362 rfl fun a369 h369 => ?_; clear h362
              refine pl_nil ?_
              refine co_then ?_
              refine wp_ret ?_
              refine co_ret1 h369 rfl rfl ?_
              have hE370 := hE305.new hg314
              have hE371 := hE370.new (below_grown hb334)
              have hE372 := hE371.row hr352 (by decide) hg350
              have hE373 := hE372.blk hk367 (by decide) hg366
              have hE374 := hE341.row hr352 (by decide) hg350
              have hE375 := hE374.blk hk367 (by decide) hg366
              have hr376 := row_kept_at hr349' hg366 (own_neT hr349' hk367 (by decide))
              have hB377 := fbU_at hB357 hg366 (fun hlt => by rcases hO.sb with hq | hq; exact hq; omega)
              have hT := setL_new (n := (j : Int)) hE (by first | exact nm_n (by assumption) (by assumption) | exact nm_o (by omega)) hq300 hq333
              exact ⟨_, _, ret_int hE.symm, ⟨hk364', (row_lows hr376 (Nat.zero_le _)), (EntsK.app hE373 hE375), hO.sb, (InS.low hr376 (by omega)), (by rw [List.length_append]; omega)⟩, hT, hB377⟩
            ·
             refine dr_opVal (i := 8) (v := .agg #[.int .i64 c, .int .i64 r, v, .int .u64 ts]) h291 rfl rfl rfl rfl (by kernel_rfl) rfl (rn_loadN rfl rfl Try.underlying47 rfl (by kernel_rfl) hk283.all) ⟨hB281, hr282, hk283⟩ (fun a378 h378 => ?_); clear h291
             refine dr_many [7, 9] (by kernel_rfl) (by simp) ⟨?_, ?_, trivial⟩
             ·
              have hbad : badT (X.take ((j : Int) : Int).toNat) (EntT.mk c r (.slice none 0 0) l ts) = false := by first | exact hi232.trans hc241
              have hkj : k = j := by omega
              have hE := setE_f (i := (j : Int)) (v := .slice none 0 0) (by omega) (by omega) (by omega) (by have hq := (by assumption : findN (X.take k) (c, r) = none); rw [hkj] at hq; exact hq) hbad
              have hE381 := hf234.new hg243
              have hE382 := hE381.new hg275
              refine dr_op (i := 7) h378 rfl rfl rfl rfl (op_call (args := #[subV u 0 j 4]) (R := fun res xw => ∃ L2 : List EntT, ∃ u : Value, res = u ∧ xw.ownsRow w274.heap.size 47 4 u L2.length (L2.flatMap entE) ∧ EntsK (fun _ => False) w274.heap.size xw L2 ∧ L2.map e0 = (X.take j).map e0 ∧ Below w274.heap.size w274 xw) rfl rfl rfl (by kernel_rfl) (by kernel_rfl) (Try.call52 _ _) (rcopy17_any (subV u 0 j 4) (X.take j) w274 (sl_take (row_sl hr282 entE_len) _ (by omega)) (entsK_got (EntsK.take hE382 j)) (fun z hz => ((EntsK.take hE382 j) z hz).len) (by rw [List.length_take]; omega)) (by rintro e x ⟨L2, u, rfl, hq385, hq386, hq387, hb388⟩; exact ⟨_, rfl, ⟨L2, u, rfl, hq385, hq386, hq387, hb388⟩⟩)) ?_ ?_; clear h378
              ·
               rintro u384 w380 ⟨L2383, _, rfl, hq385, hq386, hq387, hb388⟩
               have hu389 := row_under hr282 (rfl : w274.heap.size = _)
               have hz390 := hb388.size
               have hl391 := sl_len (row_sl hq385 entE_len)
               have hE392 : EntsK S w0.heap.size w380 L2383 := EntsK.low hq386 (by omega)
               have hl393 := e0_len hq387; rw [List.length_take] at hl393
               have hB394 := fbU_call hB281 hb388
               have hr395 := row_kept_new hr282 (below_grown hb388)
               have hk396 := hk283.below hb388
               exact ⟨hB394, hr395, hk396⟩
              rintro u384 w380 a379 ⟨L2383, _, rfl, hq385, hq386, hq387, hb388⟩ h379
              have hu389 := row_under hr282 (rfl : w274.heap.size = _)
              have hz390 := hb388.size
              have hl391 := sl_len (row_sl hq385 entE_len)
              have hE392 : EntsK S w0.heap.size w380 L2383 := EntsK.low hq386 (by omega)
              have hl393 := e0_len hq387; rw [List.length_take] at hl393
              have hB394 := fbU_call hB281 hb388
              have hr395 := row_kept_new hr282 (below_grown hb388)
              have hk396 := hk283.below hb388
              refine d1 9 h379 rfl rfl (op_new (v := fun N => .slice (some ⟨N, 0, none⟩) 1 1) (T := 47) (cs := #[.int .i64 c, .int .i64 r, v, .int .u64 ts]) (by kernel_rfl) (by kernel_rfl) (by kernel_rfl)) ?_ ?_; clear h379
              ·
               rintro _ w398 ⟨N399, rfl, hN402, hz403, hk401, hg400⟩
               have ha404 := row_fresh hr395 hN402
               have hu405 := row_under hr395 hN402
               have ha406 := row_fresh hq385 hN402
               have hu407 := row_under hq385 hN402
               have hz408 := hg400.size
               have hB409 := fbU_new hB394 hg400
               have hr410 := row_kept_new hr395 hg400
               have hk411 := hk396.kept hg400 (by simp)
               exact ⟨hB409, hr410, hk411⟩
              rintro _ w398 a397 ⟨N399, rfl, hN402, hz403, hk401, hg400⟩ h397
              have ha404 := row_fresh hr395 hN402
              have hu405 := row_under hr395 hN402
              have ha406 := row_fresh hq385 hN402
              have hu407 := row_under hq385 hN402
              have hz408 := hg400.size
              try dsimp only at h397
              have hB409 := fbU_new hB394 hg400
              have hr410 := row_kept_new hr395 hg400
              have hk411 := hk396.kept hg400 (by simp)
              have hr414 := row_of_cells (enc := entE) (sz := 4) ([(EntT.mk c r v l ts)] : List EntT) hk401 (Nat.le_refl _) rfl rfl (by unfold maxLen; simp)
              refine d1 10 h397 rfl rfl (op_call (args := #[.slice (some ⟨N399, 0, none⟩) 1 1]) (R := fun res xw => ∃ L2 : List EntT, ∃ u : Value, res = u ∧ xw.ownsRow w398.heap.size 47 4 u L2.length (L2.flatMap entE) ∧ EntsK (fun _ => False) w398.heap.size xw L2 ∧ L2.map e0 = ([(EntT.mk c r v l ts)] : List EntT).map e0 ∧ Below w398.heap.size w398 xw) rfl rfl rfl (by kernel_rfl) (by kernel_rfl) (Try.call52 _ _) (rcopy17_any (.slice (some ⟨N399, 0, none⟩) 1 1) ([(EntT.mk c r v l ts)] : List EntT) w398 (row_sl hr414 entE_len) (fun z hz => by simp only [List.mem_singleton] at hz; subst hz; exact ⟨sl_butN hs hB409 hvS, hen.1, hts.1, hts.2, hen.2.1, hen.2.2⟩) (fun z hz => by simp only [List.mem_singleton] at hz; subst hz; exact hlen) (by simp)) (by rintro e x ⟨L2, u, rfl, hq417, hq418, hq419, hb420⟩; exact ⟨_, rfl, ⟨L2, u, rfl, hq417, hq418, hq419, hb420⟩⟩)) ?_ ?_; clear h397
              ·
               rintro u416 w413 ⟨L2415, _, rfl, hq417, hq418, hq419, hb420⟩
               have hu421 := row_under hr410 (rfl : w398.heap.size = _)
               have hr423 := row_kept_new hq385 hg400
               have hu422 := row_under hr423 (rfl : w398.heap.size = _)
               have hu424 := row_under hr414 (rfl : w398.heap.size = _)
               have hz425 := hb420.size
               have hl426 := sl_len (row_sl hq417 entE_len)
               have hE427 : EntsK S w0.heap.size w413 L2415 := EntsK.low hq418 (by omega)
               have hl428 : L2415.length = 1 := e0_len hq419
               have hB429 := fbU_call hB409 hb420
               have hr430 := row_kept_new hr410 (below_grown hb420)
               have hk431 := hk411.below hb420
               exact ⟨hB429, hr430, hk431⟩
              rintro u416 w413 a412 ⟨L2415, _, rfl, hq417, hq418, hq419, hb420⟩ h412
              have hu421 := row_under hr410 (rfl : w398.heap.size = _)
              have hr423 := row_kept_new hq385 hg400
              have hu422 := row_under hr423 (rfl : w398.heap.size = _)
              have hu424 := row_under hr414 (rfl : w398.heap.size = _)
              have hz425 := hb420.size
              have hl426 := sl_len (row_sl hq417 entE_len)
              have hE427 : EntsK S w0.heap.size w413 L2415 := EntsK.low hq418 (by omega)
              have hl428 : L2415.length = 1 := e0_len hq419
              have hB429 := fbU_call hB409 hb420
              have hr430 := row_kept_new hr410 (below_grown hb420)
              have hk431 := hk411.below hb420
              have hr438 := row_kept_new hr423 (below_grown hb420)
              refine d1 11 h412 rfl rfl (op_appendSrc rfl w274.heap.size 47 (z := .agg #[.int .i64 0, .int .i64 0, .slice none 0 0, .int .u64 0]) (size := 4) (bytes := 48) Try.underlying39 (by kernel_rfl) rfl rfl rfl hr438 rfl (row_sl hq417 entE_len) (fun y hy => ⟨entE_len y, entE_oneK (hE427 y hy)⟩) (by first | omega | (simp only [List.length_nil, List.length_append, List.length_cons, List.length_take, List.length_drop]; omega)) (by first | omega | (simp only [List.length_nil, List.length_append, List.length_cons, List.length_take, List.length_drop]; omega)) (by omega)) ?_ ?_; clear h412
              ·
               rintro v434 w433 ⟨hr435, hg436⟩
               have hr435' : w433.ownsRow w274.heap.size 47 4 v434 ((L2383 ++ L2415).length) ((L2383 ++ L2415).flatMap entE) := row_app hr435; clear hr435
               have hz439 := hg436.size
               have hk440 := hk289.below hb388
               have hk441 := hk440.kept hg400 (by simp)
               have hk442 := hk441.below hb420
               have hB443 := fbU_row hB429 (InS.low hq385 (by omega)) hg436
               have hr444 := row_kept_ap hr430 hr438 hu389 hg436
               have hk445 := hk431.kept hg436 (row_ne_lt hr438 (by omega))
               exact ⟨hB443, hr444, hk445⟩
              rintro v434 w433 a432 ⟨hr435, hg436⟩ h432
              have hr435' : w433.ownsRow w274.heap.size 47 4 v434 ((L2383 ++ L2415).length) ((L2383 ++ L2415).flatMap entE) := row_app hr435; clear hr435
              have hz439 := hg436.size
              have hk440 := hk289.below hb388
              have hk441 := hk440.kept hg400 (by simp)
              have hk442 := hk441.below hb420
              have hB443 := fbU_row hB429 (InS.low hq385 (by omega)) hg436
              have hr444 := row_kept_ap hr430 hr438 hu389 hg436
              have hk445 := hk431.kept hg436 (row_ne_lt hr438 (by omega))
              refine dk0 12 (v := pt b 0) h432 rfl rfl ⟨hB443, hr444, hk445⟩ fun a446 h446 => ?_; clear h432
              refine dk0 13 (v := pt b 0) h446 rfl rfl ⟨hB443, hr444, hk445⟩ fun a447 h447 => ?_; clear h446
              have hk453 := hk442.kept hg436 (own_neT hr438 hk442 (by decide))
              refine d1D 14 h447 rfl rfl (op_store1 rfl rfl rfl (row_one hr435') Try.sizeOf39 hk453 rfl) ?_ ?_; clear h447
              ·
               rintro _ w449 ⟨hk450, hz451, hg452⟩
               have hk450' : Blk w449 b 41 #[v434] := hk450; clear hk450
               have hz454 := hg452.size
               have hB455 := fbU_at hB443 hg452 (fun hlt => by rcases hO.sb with hq | hq; exact hq; omega)
               have hr456 := row_kept_at hr444 hg452 (own_neT hr444 hk453 (by decide))
               have hk457 := hk445.kept hg452 (by simp; omega)
               exact ⟨hB455, hr456, hk457⟩
              rintro _ w449 a448 ⟨hk450, hz451, hg452⟩ h448
              have hk450' : Blk w449 b 41 #[v434] := hk450; clear hk450
              have hz454 := hg452.size
              refine dr_done (by kernel_rfl) ?_
              refine co_then ?_
              refine co_seq ?_
              refine co_reg ?_
              refine pk0 (v := .int .i64 0) h448 rfl fun a455 h455 => ?_; clear h448
              refine pl_nil ?_
              refine co_then ?_
              refine wp_ret ?_
              refine co_ret1 h455 rfl rfl ?_
              have hE456 := hE392.new hg400
              have hE457 := hE456.new (below_grown hb420)
              have hE458 := hE457.row hr438 (by decide) hg436
              have hE459 := hE458.blk hk453 (by decide) hg452
              have hE460 := hE427.row hr438 (by decide) hg436
              have hE461 := hE460.blk hk453 (by decide) hg452
              have hr462 := row_kept_at hr435' hg452 (own_neT hr435' hk453 (by decide))
              have hB463 := fbU_at hB443 hg452 (fun hlt => by rcases hO.sb with hq | hq; exact hq; omega)
              have hT := setL_new (n := (j : Int)) hE (by first | exact nm_n (by assumption) (by assumption) | exact nm_o (by omega)) hq387 hq419
              exact ⟨_, _, ret_int hE.symm, ⟨hk450', (row_lows hr462 (Nat.zero_le _)), (EntsK.app hE459 hE461), hO.sb, (InS.low hr462 (by omega)), (by rw [List.length_append]; omega)⟩, hT, hB463⟩
             ·
              refine dr_op (i := 9) h378 rfl rfl rfl rfl (op_new (v := fun N => .slice (some ⟨N, 0, none⟩) 1 1) (T := 47) (cs := #[.int .i64 c, .int .i64 r, v, .int .u64 ts]) (by kernel_rfl) (by kernel_rfl) (by kernel_rfl)) ?_ ?_; clear h378
              ·
               rintro _ w465 ⟨N466, rfl, hN469, hz470, hk468, hg467⟩
               have ha471 := row_fresh hr282 hN469
               have hu472 := row_under hr282 hN469
               have hz473 := hg467.size
               have hB474 := fbU_new hB281 hg467
               have hr475 := row_kept_new hr282 hg467
               have hk476 := hk283.kept hg467 (by simp)
               exact ⟨hB474, hr475, hk476⟩
              rintro _ w465 a464 ⟨N466, rfl, hN469, hz470, hk468, hg467⟩ h464
              have ha471 := row_fresh hr282 hN469
              have hu472 := row_under hr282 hN469
              have hz473 := hg467.size
              try dsimp only at h464
              have hB474 := fbU_new hB281 hg467
              have hr475 := row_kept_new hr282 hg467
              have hk476 := hk283.kept hg467 (by simp)
              have hbad : badT (X.take ((j : Int) : Int).toNat) (EntT.mk c r (.slice none 0 0) l ts) = false := by first | exact hi232.trans hc241
              have hkj : k = j := by omega
              have hE := setE_f (i := (j : Int)) (v := .slice none 0 0) (by omega) (by omega) (by omega) (by have hq := (by assumption : findN (X.take k) (c, r) = none); rw [hkj] at hq; exact hq) hbad
              have hE479 := hf234.new hg243
              have hE480 := hE479.new hg275
              have hE481 := hE480.new hg467
              refine d1 7 h464 rfl rfl (op_call (args := #[subV u 0 j 4]) (R := fun res xw => ∃ L2 : List EntT, ∃ u : Value, res = u ∧ xw.ownsRow w465.heap.size 47 4 u L2.length (L2.flatMap entE) ∧ EntsK (fun _ => False) w465.heap.size xw L2 ∧ L2.map e0 = (X.take j).map e0 ∧ Below w465.heap.size w465 xw) rfl rfl rfl (by kernel_rfl) (by kernel_rfl) (Try.call52 _ _) (rcopy17_any (subV u 0 j 4) (X.take j) w465 (sl_take (row_sl hr475 entE_len) _ (by omega)) (entsK_got (EntsK.take hE481 j)) (fun z hz => ((EntsK.take hE481 j) z hz).len) (by rw [List.length_take]; omega)) (by rintro e x ⟨L2, u, rfl, hq484, hq485, hq486, hb487⟩; exact ⟨_, rfl, ⟨L2, u, rfl, hq484, hq485, hq486, hb487⟩⟩)) ?_ ?_; clear h464
              ·
               rintro u483 w478 ⟨L2482, _, rfl, hq484, hq485, hq486, hb487⟩
               have hu488 := row_under hr475 (rfl : w465.heap.size = _)
               have hz489 := hb487.size
               have hl490 := sl_len (row_sl hq484 entE_len)
               have hE491 : EntsK S w0.heap.size w478 L2482 := EntsK.low hq485 (by omega)
               have hl492 := e0_len hq486; rw [List.length_take] at hl492
               have hB493 := fbU_call hB474 hb487
               have hr494 := row_kept_new hr475 (below_grown hb487)
               have hk495 := hk476.below hb487
               exact ⟨hB493, hr494, hk495⟩
              rintro u483 w478 a477 ⟨L2482, _, rfl, hq484, hq485, hq486, hb487⟩ h477
              have hu488 := row_under hr475 (rfl : w465.heap.size = _)
              have hz489 := hb487.size
              have hl490 := sl_len (row_sl hq484 entE_len)
              have hE491 : EntsK S w0.heap.size w478 L2482 := EntsK.low hq485 (by omega)
              have hl492 := e0_len hq486; rw [List.length_take] at hl492
              have hB493 := fbU_call hB474 hb487
              have hr494 := row_kept_new hr475 (below_grown hb487)
              have hk495 := hk476.below hb487
              have hk499 := hk468.below hb487
              have hr498 := row_of_cells (enc := entE) (sz := 4) ([(EntT.mk c r v l ts)] : List EntT) hk499 (Nat.le_refl _) rfl rfl (by unfold maxLen; simp)
              refine d1 10 h477 rfl rfl (op_call (args := #[.slice (some ⟨N466, 0, none⟩) 1 1]) (R := fun res xw => ∃ L2 : List EntT, ∃ u : Value, res = u ∧ xw.ownsRow w478.heap.size 47 4 u L2.length (L2.flatMap entE) ∧ EntsK (fun _ => False) w478.heap.size xw L2 ∧ L2.map e0 = ([(EntT.mk c r v l ts)] : List EntT).map e0 ∧ Below w478.heap.size w478 xw) rfl rfl rfl (by kernel_rfl) (by kernel_rfl) (Try.call52 _ _) (rcopy17_any (.slice (some ⟨N466, 0, none⟩) 1 1) ([(EntT.mk c r v l ts)] : List EntT) w478 (row_sl hr498 entE_len) (fun z hz => by simp only [List.mem_singleton] at hz; subst hz; exact ⟨sl_butN hs hB493 hvS, hen.1, hts.1, hts.2, hen.2.1, hen.2.2⟩) (fun z hz => by simp only [List.mem_singleton] at hz; subst hz; exact hlen) (by simp)) (by rintro e x ⟨L2, u, rfl, hq502, hq503, hq504, hb505⟩; exact ⟨_, rfl, ⟨L2, u, rfl, hq502, hq503, hq504, hb505⟩⟩)) ?_ ?_; clear h477
              ·
               rintro u501 w497 ⟨L2500, _, rfl, hq502, hq503, hq504, hb505⟩
               have hu506 := row_under hr494 (rfl : w478.heap.size = _)
               have hu507 := row_under hq484 (rfl : w478.heap.size = _)
               have hu508 := row_under hr498 (rfl : w478.heap.size = _)
               have hz509 := hb505.size
               have hl510 := sl_len (row_sl hq502 entE_len)
               have hE511 : EntsK S w0.heap.size w497 L2500 := EntsK.low hq503 (by omega)
               have hl512 : L2500.length = 1 := e0_len hq504
               have hB513 := fbU_call hB493 hb505
               have hr514 := row_kept_new hr494 (below_grown hb505)
               have hk515 := hk495.below hb505
               exact ⟨hB513, hr514, hk515⟩
              rintro u501 w497 a496 ⟨L2500, _, rfl, hq502, hq503, hq504, hb505⟩ h496
              have hu506 := row_under hr494 (rfl : w478.heap.size = _)
              have hu507 := row_under hq484 (rfl : w478.heap.size = _)
              have hu508 := row_under hr498 (rfl : w478.heap.size = _)
              have hz509 := hb505.size
              have hl510 := sl_len (row_sl hq502 entE_len)
              have hE511 : EntsK S w0.heap.size w497 L2500 := EntsK.low hq503 (by omega)
              have hl512 : L2500.length = 1 := e0_len hq504
              have hB513 := fbU_call hB493 hb505
              have hr514 := row_kept_new hr494 (below_grown hb505)
              have hk515 := hk495.below hb505
              have hr522 := row_kept_new hq484 (below_grown hb505)
              refine d1 11 h496 rfl rfl (op_appendSrc rfl w465.heap.size 47 (z := .agg #[.int .i64 0, .int .i64 0, .slice none 0 0, .int .u64 0]) (size := 4) (bytes := 48) Try.underlying39 (by kernel_rfl) rfl rfl rfl hr522 rfl (row_sl hq502 entE_len) (fun y hy => ⟨entE_len y, entE_oneK (hE511 y hy)⟩) (by first | omega | (simp only [List.length_nil, List.length_append, List.length_cons, List.length_take, List.length_drop]; omega)) (by first | omega | (simp only [List.length_nil, List.length_append, List.length_cons, List.length_take, List.length_drop]; omega)) (by omega)) ?_ ?_; clear h496
              ·
               rintro v518 w517 ⟨hr519, hg520⟩
               have hr519' : w517.ownsRow w465.heap.size 47 4 v518 ((L2482 ++ L2500).length) ((L2482 ++ L2500).flatMap entE) := row_app hr519; clear hr519
               have hz523 := hg520.size
               have hk524 := hk289.kept hg467 (by simp)
               have hk525 := hk524.below hb487
               have hk526 := hk525.below hb505
               have hB527 := fbU_row hB513 (InS.low hq484 (by omega)) hg520
               have hr528 := row_kept_ap hr514 hr522 hu488 hg520
               have hk529 := hk515.kept hg520 (row_ne_lt hr522 (by omega))
               exact ⟨hB527, hr528, hk529⟩
              rintro v518 w517 a516 ⟨hr519, hg520⟩ h516
              have hr519' : w517.ownsRow w465.heap.size 47 4 v518 ((L2482 ++ L2500).length) ((L2482 ++ L2500).flatMap entE) := row_app hr519; clear hr519
              have hz523 := hg520.size
              have hk524 := hk289.kept hg467 (by simp)
              have hk525 := hk524.below hb487
              have hk526 := hk525.below hb505
              have hB527 := fbU_row hB513 (InS.low hq484 (by omega)) hg520
              have hr528 := row_kept_ap hr514 hr522 hu488 hg520
              have hk529 := hk515.kept hg520 (row_ne_lt hr522 (by omega))
              refine dk0 12 (v := pt b 0) h516 rfl rfl ⟨hB527, hr528, hk529⟩ fun a530 h530 => ?_; clear h516
              refine dk0 13 (v := pt b 0) h530 rfl rfl ⟨hB527, hr528, hk529⟩ fun a531 h531 => ?_; clear h530
              have hk537 := hk526.kept hg520 (own_neT hr522 hk526 (by decide))
              refine d1D 14 h531 rfl rfl (op_store1 rfl rfl rfl (row_one hr519') Try.sizeOf39 hk537 rfl) ?_ ?_; clear h531
              ·
               rintro _ w533 ⟨hk534, hz535, hg536⟩
               have hk534' : Blk w533 b 41 #[v518] := hk534; clear hk534
               have hz538 := hg536.size
               have hB539 := fbU_at hB527 hg536 (fun hlt => by rcases hO.sb with hq | hq; exact hq; omega)
               have hr540 := row_kept_at hr528 hg536 (own_neT hr528 hk537 (by decide))
               have hk541 := hk529.kept hg536 (by simp; omega)
               exact ⟨hB539, hr540, hk541⟩
              rintro _ w533 a532 ⟨hk534, hz535, hg536⟩ h532
              have hk534' : Blk w533 b 41 #[v518] := hk534; clear hk534
              have hz538 := hg536.size
              refine dr_done (by kernel_rfl) ?_
              refine co_then ?_
              refine co_seq ?_
              refine co_reg ?_
              refine pk0 (v := .int .i64 0) h532 rfl fun a539 h539 => ?_; clear h532
              refine pl_nil ?_
              refine co_then ?_
              refine wp_ret ?_
              refine co_ret1 h539 rfl rfl ?_
              have hE540 := hE491.new (below_grown hb505)
              have hE541 := hE540.row hr522 (by decide) hg520
              have hE542 := hE541.blk hk537 (by decide) hg536
              have hE543 := hE511.row hr522 (by decide) hg520
              have hE544 := hE543.blk hk537 (by decide) hg536
              have hr545 := row_kept_at hr519' hg536 (own_neT hr519' hk537 (by decide))
              have hB546 := fbU_at hB527 hg536 (fun hlt => by rcases hO.sb with hq | hq; exact hq; omega)
              have hT := setL_new (n := (j : Int)) hE (by first | exact nm_n (by assumption) (by assumption) | exact nm_o (by omega)) hq486 hq504
              exact ⟨_, _, ret_int hE.symm, ⟨hk534', (row_lows hr545 (Nat.zero_le _)), (EntsK.app hE542 hE544), hO.sb, (InS.low hr545 (by omega)), (by rw [List.length_append]; omega)⟩, hT, hB546⟩
           ·
            refine dr_opVal (i := 8) (v := .agg #[.int .i64 c, .int .i64 r, v, .int .u64 ts]) h288 rfl rfl rfl rfl (by kernel_rfl) rfl (rn_loadN rfl rfl Try.underlying47 rfl (by kernel_rfl) hk283.all) ⟨hB281, hr282, hk283⟩ (fun a547 h547 => ?_); clear h288
            refine dr_many [4, 9] (by kernel_rfl) (by simp) ⟨?_, ?_, trivial⟩
            ·
             have hk548 := hk252.kept hg275 (by simp)
             refine dr_opVal (i := 4) (v := u) h547 rfl rfl rfl rfl (by kernel_rfl) rfl (rn_load1 rfl rfl Try.isAgg39 (hk548.cell rfl)) ⟨hB281, hr282, hk283⟩ (fun a549 h549 => ?_); clear h547
             refine dk 6 (v := subV u 0 j 4) h549 rfl rfl ⟨hB281, hr282, hk283⟩ (fun x hx => (rn_sliceTo rfl rfl rfl Try.underlying39 Try.sizeOf47 (row_sl hx.2.1 entE_len) (by omega) (by omega))) fun a550 h550 => ?_; clear h549
             refine dr_many [7, 9] (by kernel_rfl) (by simp) ⟨?_, ?_, trivial⟩
             ·
              have hbad : badT (X.take ((j : Int) : Int).toNat) (EntT.mk c r (.slice none 0 0) l ts) = false := by first | exact hi232.trans hc241
              have hkj : k = j := by omega
              have hE := setE_f (i := (j : Int)) (v := .slice none 0 0) (by omega) (by omega) (by omega) (by have hq := (by assumption : findN (X.take k) (c, r) = none); rw [hkj] at hq; exact hq) hbad
              have hE553 := hf234.new hg243
              have hE554 := hE553.new hg275
              refine dr_op (i := 7) h550 rfl rfl rfl rfl (op_call (args := #[subV u 0 j 4]) (R := fun res xw => ∃ L2 : List EntT, ∃ u : Value, res = u ∧ xw.ownsRow w274.heap.size 47 4 u L2.length (L2.flatMap entE) ∧ EntsK (fun _ => False) w274.heap.size xw L2 ∧ L2.map e0 = (X.take j).map e0 ∧ Below w274.heap.size w274 xw) rfl rfl rfl (by kernel_rfl) (by kernel_rfl) (Try.call52 _ _) (rcopy17_any (subV u 0 j 4) (X.take j) w274 (sl_take (row_sl hr282 entE_len) _ (by omega)) (entsK_got (EntsK.take hE554 j)) (fun z hz => ((EntsK.take hE554 j) z hz).len) (by rw [List.length_take]; omega)) (by rintro e x ⟨L2, u, rfl, hq557, hq558, hq559, hb560⟩; exact ⟨_, rfl, ⟨L2, u, rfl, hq557, hq558, hq559, hb560⟩⟩)) ?_ ?_; clear h550
              ·
               rintro u556 w552 ⟨L2555, _, rfl, hq557, hq558, hq559, hb560⟩
               have hu561 := row_under hr282 (rfl : w274.heap.size = _)
               have hz562 := hb560.size
               have hl563 := sl_len (row_sl hq557 entE_len)
               have hE564 : EntsK S w0.heap.size w552 L2555 := EntsK.low hq558 (by omega)
               have hl565 := e0_len hq559; rw [List.length_take] at hl565
               have hB566 := fbU_call hB281 hb560
               have hr567 := row_kept_new hr282 (below_grown hb560)
               have hk568 := hk283.below hb560
               exact ⟨hB566, hr567, hk568⟩
              rintro u556 w552 a551 ⟨L2555, _, rfl, hq557, hq558, hq559, hb560⟩ h551
              have hu561 := row_under hr282 (rfl : w274.heap.size = _)
              have hz562 := hb560.size
              have hl563 := sl_len (row_sl hq557 entE_len)
              have hE564 : EntsK S w0.heap.size w552 L2555 := EntsK.low hq558 (by omega)
              have hl565 := e0_len hq559; rw [List.length_take] at hl565
              have hB566 := fbU_call hB281 hb560
              have hr567 := row_kept_new hr282 (below_grown hb560)
              have hk568 := hk283.below hb560
              refine d1 9 h551 rfl rfl (op_new (v := fun N => .slice (some ⟨N, 0, none⟩) 1 1) (T := 47) (cs := #[.int .i64 c, .int .i64 r, v, .int .u64 ts]) (by kernel_rfl) (by kernel_rfl) (by kernel_rfl)) ?_ ?_; clear h551
              ·
               rintro _ w570 ⟨N571, rfl, hN574, hz575, hk573, hg572⟩
               have ha576 := row_fresh hr567 hN574
               have hu577 := row_under hr567 hN574
               have ha578 := row_fresh hq557 hN574
               have hu579 := row_under hq557 hN574
               have hz580 := hg572.size
               have hB581 := fbU_new hB566 hg572
               have hr582 := row_kept_new hr567 hg572
               have hk583 := hk568.kept hg572 (by simp)
               exact ⟨hB581, hr582, hk583⟩
              rintro _ w570 a569 ⟨N571, rfl, hN574, hz575, hk573, hg572⟩ h569
              have ha576 := row_fresh hr567 hN574
              have hu577 := row_under hr567 hN574
              have ha578 := row_fresh hq557 hN574
              have hu579 := row_under hq557 hN574
              have hz580 := hg572.size
              try dsimp only at h569
              have hB581 := fbU_new hB566 hg572
              have hr582 := row_kept_new hr567 hg572
              have hk583 := hk568.kept hg572 (by simp)
              have hr586 := row_of_cells (enc := entE) (sz := 4) ([(EntT.mk c r v l ts)] : List EntT) hk573 (Nat.le_refl _) rfl rfl (by unfold maxLen; simp)
              refine d1 10 h569 rfl rfl (op_call (args := #[.slice (some ⟨N571, 0, none⟩) 1 1]) (R := fun res xw => ∃ L2 : List EntT, ∃ u : Value, res = u ∧ xw.ownsRow w570.heap.size 47 4 u L2.length (L2.flatMap entE) ∧ EntsK (fun _ => False) w570.heap.size xw L2 ∧ L2.map e0 = ([(EntT.mk c r v l ts)] : List EntT).map e0 ∧ Below w570.heap.size w570 xw) rfl rfl rfl (by kernel_rfl) (by kernel_rfl) (Try.call52 _ _) (rcopy17_any (.slice (some ⟨N571, 0, none⟩) 1 1) ([(EntT.mk c r v l ts)] : List EntT) w570 (row_sl hr586 entE_len) (fun z hz => by simp only [List.mem_singleton] at hz; subst hz; exact ⟨sl_butN hs hB581 hvS, hen.1, hts.1, hts.2, hen.2.1, hen.2.2⟩) (fun z hz => by simp only [List.mem_singleton] at hz; subst hz; exact hlen) (by simp)) (by rintro e x ⟨L2, u, rfl, hq589, hq590, hq591, hb592⟩; exact ⟨_, rfl, ⟨L2, u, rfl, hq589, hq590, hq591, hb592⟩⟩)) ?_ ?_; clear h569
              ·
               rintro u588 w585 ⟨L2587, _, rfl, hq589, hq590, hq591, hb592⟩
               have hu593 := row_under hr582 (rfl : w570.heap.size = _)
               have hr595 := row_kept_new hq557 hg572
               have hu594 := row_under hr595 (rfl : w570.heap.size = _)
               have hu596 := row_under hr586 (rfl : w570.heap.size = _)
               have hz597 := hb592.size
               have hl598 := sl_len (row_sl hq589 entE_len)
               have hE599 : EntsK S w0.heap.size w585 L2587 := EntsK.low hq590 (by omega)
               have hl600 : L2587.length = 1 := e0_len hq591
               have hB601 := fbU_call hB581 hb592
               have hr602 := row_kept_new hr582 (below_grown hb592)
               have hk603 := hk583.below hb592
               exact ⟨hB601, hr602, hk603⟩
              rintro u588 w585 a584 ⟨L2587, _, rfl, hq589, hq590, hq591, hb592⟩ h584
              have hu593 := row_under hr582 (rfl : w570.heap.size = _)
              have hr595 := row_kept_new hq557 hg572
              have hu594 := row_under hr595 (rfl : w570.heap.size = _)
              have hu596 := row_under hr586 (rfl : w570.heap.size = _)
              have hz597 := hb592.size
              have hl598 := sl_len (row_sl hq589 entE_len)
              have hE599 : EntsK S w0.heap.size w585 L2587 := EntsK.low hq590 (by omega)
              have hl600 : L2587.length = 1 := e0_len hq591
              have hB601 := fbU_call hB581 hb592
              have hr602 := row_kept_new hr582 (below_grown hb592)
              have hk603 := hk583.below hb592
              have hr610 := row_kept_new hr595 (below_grown hb592)
              refine d1 11 h584 rfl rfl (op_appendSrc rfl w274.heap.size 47 (z := .agg #[.int .i64 0, .int .i64 0, .slice none 0 0, .int .u64 0]) (size := 4) (bytes := 48) Try.underlying39 (by kernel_rfl) rfl rfl rfl hr610 rfl (row_sl hq589 entE_len) (fun y hy => ⟨entE_len y, entE_oneK (hE599 y hy)⟩) (by first | omega | (simp only [List.length_nil, List.length_append, List.length_cons, List.length_take, List.length_drop]; omega)) (by first | omega | (simp only [List.length_nil, List.length_append, List.length_cons, List.length_take, List.length_drop]; omega)) (by omega)) ?_ ?_; clear h584
              ·
               rintro v606 w605 ⟨hr607, hg608⟩
               have hr607' : w605.ownsRow w274.heap.size 47 4 v606 ((L2555 ++ L2587).length) ((L2555 ++ L2587).flatMap entE) := row_app hr607; clear hr607
               have hz611 := hg608.size
               have hk612 := hk548.below hb560
               have hk613 := hk612.kept hg572 (by simp)
               have hk614 := hk613.below hb592
               have hB615 := fbU_row hB601 (InS.low hq557 (by omega)) hg608
               have hr616 := row_kept_ap hr602 hr610 hu561 hg608
               have hk617 := hk603.kept hg608 (row_ne_lt hr610 (by omega))
               exact ⟨hB615, hr616, hk617⟩
              rintro v606 w605 a604 ⟨hr607, hg608⟩ h604
              have hr607' : w605.ownsRow w274.heap.size 47 4 v606 ((L2555 ++ L2587).length) ((L2555 ++ L2587).flatMap entE) := row_app hr607; clear hr607
              have hz611 := hg608.size
              have hk612 := hk548.below hb560
              have hk613 := hk612.kept hg572 (by simp)
              have hk614 := hk613.below hb592
              have hB615 := fbU_row hB601 (InS.low hq557 (by omega)) hg608
              have hr616 := row_kept_ap hr602 hr610 hu561 hg608
              have hk617 := hk603.kept hg608 (row_ne_lt hr610 (by omega))
              refine dk0 12 (v := pt b 0) h604 rfl rfl ⟨hB615, hr616, hk617⟩ fun a618 h618 => ?_; clear h604
              refine dk0 13 (v := pt b 0) h618 rfl rfl ⟨hB615, hr616, hk617⟩ fun a619 h619 => ?_; clear h618
              have hk625 := hk614.kept hg608 (own_neT hr610 hk614 (by decide))
              refine d1D 14 h619 rfl rfl (op_store1 rfl rfl rfl (row_one hr607') Try.sizeOf39 hk625 rfl) ?_ ?_; clear h619
              ·
               rintro _ w621 ⟨hk622, hz623, hg624⟩
               have hk622' : Blk w621 b 41 #[v606] := hk622; clear hk622
               have hz626 := hg624.size
               have hB627 := fbU_at hB615 hg624 (fun hlt => by rcases hO.sb with hq | hq; exact hq; omega)
               have hr628 := row_kept_at hr616 hg624 (own_neT hr616 hk625 (by decide))
               have hk629 := hk617.kept hg624 (by simp; omega)
               exact ⟨hB627, hr628, hk629⟩
              rintro _ w621 a620 ⟨hk622, hz623, hg624⟩ h620
              have hk622' : Blk w621 b 41 #[v606] := hk622; clear hk622
              have hz626 := hg624.size
              refine dr_done (by kernel_rfl) ?_
              refine co_then ?_
              refine co_seq ?_
              refine co_reg ?_
              refine pk0 (v := .int .i64 0) h620 rfl fun a627 h627 => ?_; clear h620
              refine pl_nil ?_
              refine co_then ?_
              refine wp_ret ?_
              refine co_ret1 h627 rfl rfl ?_
              have hE628 := hE564.new hg572
              have hE629 := hE628.new (below_grown hb592)
              have hE630 := hE629.row hr610 (by decide) hg608
              have hE631 := hE630.blk hk625 (by decide) hg624
              have hE632 := hE599.row hr610 (by decide) hg608
              have hE633 := hE632.blk hk625 (by decide) hg624
              have hr634 := row_kept_at hr607' hg624 (own_neT hr607' hk625 (by decide))
              have hB635 := fbU_at hB615 hg624 (fun hlt => by rcases hO.sb with hq | hq; exact hq; omega)
              have hT := setL_new (n := (j : Int)) hE (by first | exact nm_n (by assumption) (by assumption) | exact nm_o (by omega)) hq559 hq591
              exact ⟨_, _, ret_int hE.symm, ⟨hk622', (row_lows hr634 (Nat.zero_le _)), (EntsK.app hE631 hE633), hO.sb, (InS.low hr634 (by omega)), (by rw [List.length_append]; omega)⟩, hT, hB635⟩
             ·
              refine dr_op (i := 9) h550 rfl rfl rfl rfl (op_new (v := fun N => .slice (some ⟨N, 0, none⟩) 1 1) (T := 47) (cs := #[.int .i64 c, .int .i64 r, v, .int .u64 ts]) (by kernel_rfl) (by kernel_rfl) (by kernel_rfl)) ?_ ?_; clear h550
              ·
               rintro _ w637 ⟨N638, rfl, hN641, hz642, hk640, hg639⟩
               have ha643 := row_fresh hr282 hN641
               have hu644 := row_under hr282 hN641
               have hz645 := hg639.size
               have hB646 := fbU_new hB281 hg639
               have hr647 := row_kept_new hr282 hg639
               have hk648 := hk283.kept hg639 (by simp)
               exact ⟨hB646, hr647, hk648⟩
              rintro _ w637 a636 ⟨N638, rfl, hN641, hz642, hk640, hg639⟩ h636
              have ha643 := row_fresh hr282 hN641
              have hu644 := row_under hr282 hN641
              have hz645 := hg639.size
              try dsimp only at h636
              have hB646 := fbU_new hB281 hg639
              have hr647 := row_kept_new hr282 hg639
              have hk648 := hk283.kept hg639 (by simp)
              have hbad : badT (X.take ((j : Int) : Int).toNat) (EntT.mk c r (.slice none 0 0) l ts) = false := by first | exact hi232.trans hc241
              have hkj : k = j := by omega
              have hE := setE_f (i := (j : Int)) (v := .slice none 0 0) (by omega) (by omega) (by omega) (by have hq := (by assumption : findN (X.take k) (c, r) = none); rw [hkj] at hq; exact hq) hbad
              have hE651 := hf234.new hg243
              have hE652 := hE651.new hg275
              have hE653 := hE652.new hg639
              refine d1 7 h636 rfl rfl (op_call (args := #[subV u 0 j 4]) (R := fun res xw => ∃ L2 : List EntT, ∃ u : Value, res = u ∧ xw.ownsRow w637.heap.size 47 4 u L2.length (L2.flatMap entE) ∧ EntsK (fun _ => False) w637.heap.size xw L2 ∧ L2.map e0 = (X.take j).map e0 ∧ Below w637.heap.size w637 xw) rfl rfl rfl (by kernel_rfl) (by kernel_rfl) (Try.call52 _ _) (rcopy17_any (subV u 0 j 4) (X.take j) w637 (sl_take (row_sl hr647 entE_len) _ (by omega)) (entsK_got (EntsK.take hE653 j)) (fun z hz => ((EntsK.take hE653 j) z hz).len) (by rw [List.length_take]; omega)) (by rintro e x ⟨L2, u, rfl, hq656, hq657, hq658, hb659⟩; exact ⟨_, rfl, ⟨L2, u, rfl, hq656, hq657, hq658, hb659⟩⟩)) ?_ ?_; clear h636
              ·
               rintro u655 w650 ⟨L2654, _, rfl, hq656, hq657, hq658, hb659⟩
               have hu660 := row_under hr647 (rfl : w637.heap.size = _)
               have hz661 := hb659.size
               have hl662 := sl_len (row_sl hq656 entE_len)
               have hE663 : EntsK S w0.heap.size w650 L2654 := EntsK.low hq657 (by omega)
               have hl664 := e0_len hq658; rw [List.length_take] at hl664
               have hB665 := fbU_call hB646 hb659
               have hr666 := row_kept_new hr647 (below_grown hb659)
               have hk667 := hk648.below hb659
               exact ⟨hB665, hr666, hk667⟩
              rintro u655 w650 a649 ⟨L2654, _, rfl, hq656, hq657, hq658, hb659⟩ h649
              have hu660 := row_under hr647 (rfl : w637.heap.size = _)
              have hz661 := hb659.size
              have hl662 := sl_len (row_sl hq656 entE_len)
              have hE663 : EntsK S w0.heap.size w650 L2654 := EntsK.low hq657 (by omega)
              have hl664 := e0_len hq658; rw [List.length_take] at hl664
              have hB665 := fbU_call hB646 hb659
              have hr666 := row_kept_new hr647 (below_grown hb659)
              have hk667 := hk648.below hb659
              have hk671 := hk640.below hb659
              have hr670 := row_of_cells (enc := entE) (sz := 4) ([(EntT.mk c r v l ts)] : List EntT) hk671 (Nat.le_refl _) rfl rfl (by unfold maxLen; simp)
              refine d1 10 h649 rfl rfl (op_call (args := #[.slice (some ⟨N638, 0, none⟩) 1 1]) (R := fun res xw => ∃ L2 : List EntT, ∃ u : Value, res = u ∧ xw.ownsRow w650.heap.size 47 4 u L2.length (L2.flatMap entE) ∧ EntsK (fun _ => False) w650.heap.size xw L2 ∧ L2.map e0 = ([(EntT.mk c r v l ts)] : List EntT).map e0 ∧ Below w650.heap.size w650 xw) rfl rfl rfl (by kernel_rfl) (by kernel_rfl) (Try.call52 _ _) (rcopy17_any (.slice (some ⟨N638, 0, none⟩) 1 1) ([(EntT.mk c r v l ts)] : List EntT) w650 (row_sl hr670 entE_len) (fun z hz => by simp only [List.mem_singleton] at hz; subst hz; exact ⟨sl_butN hs hB665 hvS, hen.1, hts.1, hts.2, hen.2.1, hen.2.2⟩) (fun z hz => by simp only [List.mem_singleton] at hz; subst hz; exact hlen) (by simp)) (by rintro e x ⟨L2, u, rfl, hq674, hq675, hq676, hb677⟩; exact ⟨_, rfl, ⟨L2, u, rfl, hq674, hq675, hq676, hb677⟩⟩)) ?_ ?_; clear h649
              ·
               rintro u673 w669 ⟨L2672, _, rfl, hq674, hq675, hq676, hb677⟩
               have hu678 := row_under hr666 (rfl : w650.heap.size = _)
               have hu679 := row_under hq656 (rfl : w650.heap.size = _)
               have hu680 := row_under hr670 (rfl : w650.heap.size = _)
               have hz681 := hb677.size
               have hl682 := sl_len (row_sl hq674 entE_len)
               have hE683 : EntsK S w0.heap.size w669 L2672 := EntsK.low hq675 (by omega)
               have hl684 : L2672.length = 1 := e0_len hq676
               have hB685 := fbU_call hB665 hb677
               have hr686 := row_kept_new hr666 (below_grown hb677)
               have hk687 := hk667.below hb677
               exact ⟨hB685, hr686, hk687⟩
              rintro u673 w669 a668 ⟨L2672, _, rfl, hq674, hq675, hq676, hb677⟩ h668
              have hu678 := row_under hr666 (rfl : w650.heap.size = _)
              have hu679 := row_under hq656 (rfl : w650.heap.size = _)
              have hu680 := row_under hr670 (rfl : w650.heap.size = _)
              have hz681 := hb677.size
              have hl682 := sl_len (row_sl hq674 entE_len)
              have hE683 : EntsK S w0.heap.size w669 L2672 := EntsK.low hq675 (by omega)
              have hl684 : L2672.length = 1 := e0_len hq676
              have hB685 := fbU_call hB665 hb677
              have hr686 := row_kept_new hr666 (below_grown hb677)
              have hk687 := hk667.below hb677
              have hr694 := row_kept_new hq656 (below_grown hb677)
              refine d1 11 h668 rfl rfl (op_appendSrc rfl w637.heap.size 47 (z := .agg #[.int .i64 0, .int .i64 0, .slice none 0 0, .int .u64 0]) (size := 4) (bytes := 48) Try.underlying39 (by kernel_rfl) rfl rfl rfl hr694 rfl (row_sl hq674 entE_len) (fun y hy => ⟨entE_len y, entE_oneK (hE683 y hy)⟩) (by first | omega | (simp only [List.length_nil, List.length_append, List.length_cons, List.length_take, List.length_drop]; omega)) (by first | omega | (simp only [List.length_nil, List.length_append, List.length_cons, List.length_take, List.length_drop]; omega)) (by omega)) ?_ ?_; clear h668
              ·
               rintro v690 w689 ⟨hr691, hg692⟩
               have hr691' : w689.ownsRow w637.heap.size 47 4 v690 ((L2654 ++ L2672).length) ((L2654 ++ L2672).flatMap entE) := row_app hr691; clear hr691
               have hz695 := hg692.size
               have hk696 := hk548.kept hg639 (by simp)
               have hk697 := hk696.below hb659
               have hk698 := hk697.below hb677
               have hB699 := fbU_row hB685 (InS.low hq656 (by omega)) hg692
               have hr700 := row_kept_ap hr686 hr694 hu660 hg692
               have hk701 := hk687.kept hg692 (row_ne_lt hr694 (by omega))
               exact ⟨hB699, hr700, hk701⟩
              rintro v690 w689 a688 ⟨hr691, hg692⟩ h688
              have hr691' : w689.ownsRow w637.heap.size 47 4 v690 ((L2654 ++ L2672).length) ((L2654 ++ L2672).flatMap entE) := row_app hr691; clear hr691
              have hz695 := hg692.size
              have hk696 := hk548.kept hg639 (by simp)
              have hk697 := hk696.below hb659
              have hk698 := hk697.below hb677
              have hB699 := fbU_row hB685 (InS.low hq656 (by omega)) hg692
              have hr700 := row_kept_ap hr686 hr694 hu660 hg692
              have hk701 := hk687.kept hg692 (row_ne_lt hr694 (by omega))
              refine dk0 12 (v := pt b 0) h688 rfl rfl ⟨hB699, hr700, hk701⟩ fun a702 h702 => ?_; clear h688
              refine dk0 13 (v := pt b 0) h702 rfl rfl ⟨hB699, hr700, hk701⟩ fun a703 h703 => ?_; clear h702
              have hk709 := hk698.kept hg692 (own_neT hr694 hk698 (by decide))
              refine d1D 14 h703 rfl rfl (op_store1 rfl rfl rfl (row_one hr691') Try.sizeOf39 hk709 rfl) ?_ ?_; clear h703
              ·
               rintro _ w705 ⟨hk706, hz707, hg708⟩
               have hk706' : Blk w705 b 41 #[v690] := hk706; clear hk706
               have hz710 := hg708.size
               have hB711 := fbU_at hB699 hg708 (fun hlt => by rcases hO.sb with hq | hq; exact hq; omega)
               have hr712 := row_kept_at hr700 hg708 (own_neT hr700 hk709 (by decide))
               have hk713 := hk701.kept hg708 (by simp; omega)
               exact ⟨hB711, hr712, hk713⟩
              rintro _ w705 a704 ⟨hk706, hz707, hg708⟩ h704
              have hk706' : Blk w705 b 41 #[v690] := hk706; clear hk706
              have hz710 := hg708.size
              refine dr_done (by kernel_rfl) ?_
              refine co_then ?_
              refine co_seq ?_
              refine co_reg ?_
              refine pk0 (v := .int .i64 0) h704 rfl fun a711 h711 => ?_; clear h704
              refine pl_nil ?_
              refine co_then ?_
              refine wp_ret ?_
              refine co_ret1 h711 rfl rfl ?_
              have hE712 := hE663.new (below_grown hb677)
              have hE713 := hE712.row hr694 (by decide) hg692
              have hE714 := hE713.blk hk709 (by decide) hg708
              have hE715 := hE683.row hr694 (by decide) hg692
              have hE716 := hE715.blk hk709 (by decide) hg708
              have hr717 := row_kept_at hr691' hg708 (own_neT hr691' hk709 (by decide))
              have hB718 := fbU_at hB699 hg708 (fun hlt => by rcases hO.sb with hq | hq; exact hq; omega)
              have hT := setL_new (n := (j : Int)) hE (by first | exact nm_n (by assumption) (by assumption) | exact nm_o (by omega)) hq658 hq676
              exact ⟨_, _, ret_int hE.symm, ⟨hk706', (row_lows hr717 (Nat.zero_le _)), (EntsK.app hE714 hE716), hO.sb, (InS.low hr717 (by omega)), (by rw [List.length_append]; omega)⟩, hT, hB718⟩
            ·
             refine dr_op (i := 9) h547 rfl rfl rfl rfl (op_new (v := fun N => .slice (some ⟨N, 0, none⟩) 1 1) (T := 47) (cs := #[.int .i64 c, .int .i64 r, v, .int .u64 ts]) (by kernel_rfl) (by kernel_rfl) (by kernel_rfl)) ?_ ?_; clear h547
             ·
              rintro _ w720 ⟨N721, rfl, hN724, hz725, hk723, hg722⟩
              have ha726 := row_fresh hr282 hN724
              have hu727 := row_under hr282 hN724
              have hz728 := hg722.size
              have hB729 := fbU_new hB281 hg722
              have hr730 := row_kept_new hr282 hg722
              have hk731 := hk283.kept hg722 (by simp)
              exact ⟨hB729, hr730, hk731⟩
             rintro _ w720 a719 ⟨N721, rfl, hN724, hz725, hk723, hg722⟩ h719
             have ha726 := row_fresh hr282 hN724
             have hu727 := row_under hr282 hN724
             have hz728 := hg722.size
             try dsimp only at h719
             have hB729 := fbU_new hB281 hg722
             have hr730 := row_kept_new hr282 hg722
             have hk731 := hk283.kept hg722 (by simp)
             refine dr_many [4] (by kernel_rfl) (by simp) ⟨?_, trivial⟩
             ·
              have hk732 := hk252.kept hg275 (by simp)
              have hk733 := hk732.kept hg722 (by simp)
              refine dr_opVal (i := 4) (v := u) h719 rfl rfl rfl rfl (by kernel_rfl) rfl (rn_load1 rfl rfl Try.isAgg39 (hk733.cell rfl)) ⟨hB729, hr730, hk731⟩ (fun a734 h734 => ?_); clear h719
              refine dk 6 (v := subV u 0 j 4) h734 rfl rfl ⟨hB729, hr730, hk731⟩ (fun x hx => (rn_sliceTo rfl rfl rfl Try.underlying39 Try.sizeOf47 (row_sl hx.2.1 entE_len) (by omega) (by omega))) fun a735 h735 => ?_; clear h734
              have hbad : badT (X.take ((j : Int) : Int).toNat) (EntT.mk c r (.slice none 0 0) l ts) = false := by first | exact hi232.trans hc241
              have hkj : k = j := by omega
              have hE := setE_f (i := (j : Int)) (v := .slice none 0 0) (by omega) (by omega) (by omega) (by have hq := (by assumption : findN (X.take k) (c, r) = none); rw [hkj] at hq; exact hq) hbad
              have hE738 := hf234.new hg243
              have hE739 := hE738.new hg275
              have hE740 := hE739.new hg722
              refine d1 7 h735 rfl rfl (op_call (args := #[subV u 0 j 4]) (R := fun res xw => ∃ L2 : List EntT, ∃ u : Value, res = u ∧ xw.ownsRow w720.heap.size 47 4 u L2.length (L2.flatMap entE) ∧ EntsK (fun _ => False) w720.heap.size xw L2 ∧ L2.map e0 = (X.take j).map e0 ∧ Below w720.heap.size w720 xw) rfl rfl rfl (by kernel_rfl) (by kernel_rfl) (Try.call52 _ _) (rcopy17_any (subV u 0 j 4) (X.take j) w720 (sl_take (row_sl hr730 entE_len) _ (by omega)) (entsK_got (EntsK.take hE740 j)) (fun z hz => ((EntsK.take hE740 j) z hz).len) (by rw [List.length_take]; omega)) (by rintro e x ⟨L2, u, rfl, hq743, hq744, hq745, hb746⟩; exact ⟨_, rfl, ⟨L2, u, rfl, hq743, hq744, hq745, hb746⟩⟩)) ?_ ?_; clear h735
              ·
               rintro u742 w737 ⟨L2741, _, rfl, hq743, hq744, hq745, hb746⟩
               have hu747 := row_under hr730 (rfl : w720.heap.size = _)
               have hz748 := hb746.size
               have hl749 := sl_len (row_sl hq743 entE_len)
               have hE750 : EntsK S w0.heap.size w737 L2741 := EntsK.low hq744 (by omega)
               have hl751 := e0_len hq745; rw [List.length_take] at hl751
               have hB752 := fbU_call hB729 hb746
               have hr753 := row_kept_new hr730 (below_grown hb746)
               have hk754 := hk731.below hb746
               exact ⟨hB752, hr753, hk754⟩
              rintro u742 w737 a736 ⟨L2741, _, rfl, hq743, hq744, hq745, hb746⟩ h736
              have hu747 := row_under hr730 (rfl : w720.heap.size = _)
              have hz748 := hb746.size
              have hl749 := sl_len (row_sl hq743 entE_len)
              have hE750 : EntsK S w0.heap.size w737 L2741 := EntsK.low hq744 (by omega)
              have hl751 := e0_len hq745; rw [List.length_take] at hl751
              have hB752 := fbU_call hB729 hb746
              have hr753 := row_kept_new hr730 (below_grown hb746)
              have hk754 := hk731.below hb746
              have hk758 := hk723.below hb746
              have hr757 := row_of_cells (enc := entE) (sz := 4) ([(EntT.mk c r v l ts)] : List EntT) hk758 (Nat.le_refl _) rfl rfl (by unfold maxLen; simp)
              refine d1 10 h736 rfl rfl (op_call (args := #[.slice (some ⟨N721, 0, none⟩) 1 1]) (R := fun res xw => ∃ L2 : List EntT, ∃ u : Value, res = u ∧ xw.ownsRow w737.heap.size 47 4 u L2.length (L2.flatMap entE) ∧ EntsK (fun _ => False) w737.heap.size xw L2 ∧ L2.map e0 = ([(EntT.mk c r v l ts)] : List EntT).map e0 ∧ Below w737.heap.size w737 xw) rfl rfl rfl (by kernel_rfl) (by kernel_rfl) (Try.call52 _ _) (rcopy17_any (.slice (some ⟨N721, 0, none⟩) 1 1) ([(EntT.mk c r v l ts)] : List EntT) w737 (row_sl hr757 entE_len) (fun z hz => by simp only [List.mem_singleton] at hz; subst hz; exact ⟨sl_butN hs hB752 hvS, hen.1, hts.1, hts.2, hen.2.1, hen.2.2⟩) (fun z hz => by simp only [List.mem_singleton] at hz; subst hz; exact hlen) (by simp)) (by rintro e x ⟨L2, u, rfl, hq761, hq762, hq763, hb764⟩; exact ⟨_, rfl, ⟨L2, u, rfl, hq761, hq762, hq763, hb764⟩⟩)) ?_ ?_; clear h736
              ·
               rintro u760 w756 ⟨L2759, _, rfl, hq761, hq762, hq763, hb764⟩
               have hu765 := row_under hr753 (rfl : w737.heap.size = _)
               have hu766 := row_under hq743 (rfl : w737.heap.size = _)
               have hu767 := row_under hr757 (rfl : w737.heap.size = _)
               have hz768 := hb764.size
               have hl769 := sl_len (row_sl hq761 entE_len)
               have hE770 : EntsK S w0.heap.size w756 L2759 := EntsK.low hq762 (by omega)
               have hl771 : L2759.length = 1 := e0_len hq763
               have hB772 := fbU_call hB752 hb764
               have hr773 := row_kept_new hr753 (below_grown hb764)
               have hk774 := hk754.below hb764
               exact ⟨hB772, hr773, hk774⟩
              rintro u760 w756 a755 ⟨L2759, _, rfl, hq761, hq762, hq763, hb764⟩ h755
              have hu765 := row_under hr753 (rfl : w737.heap.size = _)
              have hu766 := row_under hq743 (rfl : w737.heap.size = _)
              have hu767 := row_under hr757 (rfl : w737.heap.size = _)
              have hz768 := hb764.size
              have hl769 := sl_len (row_sl hq761 entE_len)
              have hE770 : EntsK S w0.heap.size w756 L2759 := EntsK.low hq762 (by omega)
              have hl771 : L2759.length = 1 := e0_len hq763
              have hB772 := fbU_call hB752 hb764
              have hr773 := row_kept_new hr753 (below_grown hb764)
              have hk774 := hk754.below hb764
              have hr781 := row_kept_new hq743 (below_grown hb764)
              refine d1 11 h755 rfl rfl (op_appendSrc rfl w720.heap.size 47 (z := .agg #[.int .i64 0, .int .i64 0, .slice none 0 0, .int .u64 0]) (size := 4) (bytes := 48) Try.underlying39 (by kernel_rfl) rfl rfl rfl hr781 rfl (row_sl hq761 entE_len) (fun y hy => ⟨entE_len y, entE_oneK (hE770 y hy)⟩) (by first | omega | (simp only [List.length_nil, List.length_append, List.length_cons, List.length_take, List.length_drop]; omega)) (by first | omega | (simp only [List.length_nil, List.length_append, List.length_cons, List.length_take, List.length_drop]; omega)) (by omega)) ?_ ?_; clear h755
              ·
               rintro v777 w776 ⟨hr778, hg779⟩
               have hr778' : w776.ownsRow w720.heap.size 47 4 v777 ((L2741 ++ L2759).length) ((L2741 ++ L2759).flatMap entE) := row_app hr778; clear hr778
               have hz782 := hg779.size
               have hk783 := hk733.below hb746
               have hk784 := hk783.below hb764
               have hB785 := fbU_row hB772 (InS.low hq743 (by omega)) hg779
               have hr786 := row_kept_ap hr773 hr781 hu747 hg779
               have hk787 := hk774.kept hg779 (row_ne_lt hr781 (by omega))
               exact ⟨hB785, hr786, hk787⟩
              rintro v777 w776 a775 ⟨hr778, hg779⟩ h775
              have hr778' : w776.ownsRow w720.heap.size 47 4 v777 ((L2741 ++ L2759).length) ((L2741 ++ L2759).flatMap entE) := row_app hr778; clear hr778
              have hz782 := hg779.size
              have hk783 := hk733.below hb746
              have hk784 := hk783.below hb764
              have hB785 := fbU_row hB772 (InS.low hq743 (by omega)) hg779
              have hr786 := row_kept_ap hr773 hr781 hu747 hg779
              have hk787 := hk774.kept hg779 (row_ne_lt hr781 (by omega))
              refine dk0 12 (v := pt b 0) h775 rfl rfl ⟨hB785, hr786, hk787⟩ fun a788 h788 => ?_; clear h775
              refine dk0 13 (v := pt b 0) h788 rfl rfl ⟨hB785, hr786, hk787⟩ fun a789 h789 => ?_; clear h788
              have hk795 := hk784.kept hg779 (own_neT hr781 hk784 (by decide))
              refine d1D 14 h789 rfl rfl (op_store1 rfl rfl rfl (row_one hr778') Try.sizeOf39 hk795 rfl) ?_ ?_; clear h789
              ·
               rintro _ w791 ⟨hk792, hz793, hg794⟩
               have hk792' : Blk w791 b 41 #[v777] := hk792; clear hk792
               have hz796 := hg794.size
               have hB797 := fbU_at hB785 hg794 (fun hlt => by rcases hO.sb with hq | hq; exact hq; omega)
               have hr798 := row_kept_at hr786 hg794 (own_neT hr786 hk795 (by decide))
               have hk799 := hk787.kept hg794 (by simp; omega)
               exact ⟨hB797, hr798, hk799⟩
              rintro _ w791 a790 ⟨hk792, hz793, hg794⟩ h790
              have hk792' : Blk w791 b 41 #[v777] := hk792; clear hk792
              have hz796 := hg794.size
              refine dr_done (by kernel_rfl) ?_
              refine co_then ?_
              refine co_seq ?_
              refine co_reg ?_
              refine pk0 (v := .int .i64 0) h790 rfl fun a797 h797 => ?_; clear h790
              refine pl_nil ?_
              refine co_then ?_
              refine wp_ret ?_
              refine co_ret1 h797 rfl rfl ?_
              have hE798 := hE750.new (below_grown hb764)
              have hE799 := hE798.row hr781 (by decide) hg779
              have hE800 := hE799.blk hk795 (by decide) hg794
              have hE801 := hE770.row hr781 (by decide) hg779
              have hE802 := hE801.blk hk795 (by decide) hg794
              have hr803 := row_kept_at hr778' hg794 (own_neT hr778' hk795 (by decide))
              have hB804 := fbU_at hB785 hg794 (fun hlt => by rcases hO.sb with hq | hq; exact hq; omega)
              have hT := setL_new (n := (j : Int)) hE (by first | exact nm_n (by assumption) (by assumption) | exact nm_o (by omega)) hq745 hq763
              exact ⟨_, _, ret_int hE.symm, ⟨hk792', (row_lows hr803 (Nat.zero_le _)), (EntsK.app hE800 hE802), hO.sb, (InS.low hr803 (by omega)), (by rw [List.length_append]; omega)⟩, hT, hB804⟩
          ·
           rw [hc262] at h261
           have hp805 : ((j : Nat) : Int) < ((X.length : Nat) : Int) := of_decide_eq_true hc262
           clear hc262
           refine dk0 8 (v := pt b 0) h261 rfl rfl ⟨hB250, hr251, hk252, hk253⟩ fun a806 h806 => ?_; clear h261
           refine dk0 9 (v := pt b 0) h806 rfl rfl ⟨hB250, hr251, hk252, hk253⟩ fun a807 h807 => ?_; clear h806
           refine dk0 10 (v := pt b 0) h807 rfl rfl ⟨hB250, hr251, hk252, hk253⟩ fun a808 h808 => ?_; clear h807
           refine dk 11 (v := u) h808 rfl rfl ⟨hB250, hr251, hk252, hk253⟩ (fun x hx => (rn_load1 rfl rfl Try.isAgg39 (hx.2.2.1.cell rfl))) fun a809 h809 => ?_; clear h808
           refine dk0 12 (v := .int .i64 ((j : Nat) : Int)) h809 rfl rfl ⟨hB250, hr251, hk252, hk253⟩ fun a810 h810 => ?_; clear h809
           have hE813 := hf234.new hg243
           obtain ⟨y811, hy811⟩ : ∃ z, X[j]? = some z := ⟨_, List.getElem?_eq_getElem (by first | omega | (simp; done) | (simp; omega))⟩
           have oky811 := (fun (z : EntT) (_ : z ∈ X) => trivial) _ (List.mem_of_getElem? hy811)
           have hy812 := hE813.at hy811
           have hq814 := hy812.ts0; have hq815 := hy812.ts1; have hq816 := hy812.len; have hq817 := wf_i64 hy812.cl; have hq818 := wf_i64 hy812.rq
           refine dk 13 (v := pt (blkOf u) (offOf u + j * 4)) h810 rfl rfl ⟨hB250, hr251, hk252, hk253⟩ (fun x hx => (rn_index rfl rfl rfl Try.underlying39 Try.sizeOf47 (row_sl hx.2.1 entE_len) (by omega) (by first | omega | (simp; done) | (simp; omega)))) fun a819 h819 => ?_; clear h810
           refine dk 14 (v := .agg #[.int .i64 y811.client, .int .i64 y811.req, y811.ops, .int .u64 y811.ts]) h819 rfl rfl ⟨hB250, hr251, hk252, hk253⟩ (fun x hx => (rn_loadN rfl rfl Try.underlying47 rfl (by kernel_rfl) (sl_at (row_sl hx.2.1 entE_len) hy811))) fun a820 h820 => ?_; clear h819
           refine dk 15 (v := .agg #[.int .i64 c, .int .i64 r, v, .int .u64 ts]) h820 rfl rfl ⟨hB250, hr251, hk252, hk253⟩ (fun x hx => (rn_loadN rfl rfl Try.underlying47 rfl (by kernel_rfl) hx.2.2.2.all)) fun a821 h821 => ?_; clear h820
           refine d1 16 h821 rfl rfl (op_call (args := #[.agg #[.int .i64 y811.client, .int .i64 y811.req, y811.ops, .int .u64 y811.ts], .agg #[.int .i64 c, .int .i64 r, v, .int .u64 ts]]) (R := fun res xw => res = .bool ((y811.client == (c : Int)) && (y811.req == (r : Int))) ∧ Below w242.heap.size w242 xw) rfl rfl rfl (by kernel_rfl) (by kernel_rfl) (Try.call36 _ _) (ritemTwins_any y811.client y811.req y811.ops y811.ts c r v ts w242 ) (by rintro e x ⟨rfl, hb824⟩; exact ⟨_, rfl, ⟨rfl, hb824⟩⟩)) ?_ ?_; clear h821
           ·
            rintro _ w823 ⟨rfl, hb824⟩
            have hz825 := hb824.size
            have hB826 := fbU_call hB250 hb824
            have hr827 := row_kept_new hr251 (below_grown hb824)
            have hk828 := hk252.below hb824
            have hk829 := hk253.below hb824
            exact ⟨hB826, hr827, hk828, hk829⟩
           rintro _ w823 a822 ⟨rfl, hb824⟩ h822
           have hz825 := hb824.size
           have hB826 := fbU_call hB250 hb824
           have hr827 := row_kept_new hr251 (below_grown hb824)
           have hk828 := hk252.below hb824
           have hk829 := hk253.below hb824
           refine dk0 17 (v := .bool ((y811.client == (c : Int)) && (y811.req == (r : Int)))) h822 rfl rfl ⟨hB826, hr827, hk828, hk829⟩ fun a830 h830 => ?_; clear h822
           refine dr_done (by kernel_rfl) ?_
           refine co_then ?_
           cases hc831 : (((y811.client == (c : Int)) && (y811.req == (r : Int))))
           ·
            rw [hc831] at h830
            have hp832 : ¬ (y811.client = c ∧ y811.req = r) := by first | simpa using hc831 | simpa [and_assoc] using hc831
            clear hc831
            refine co_false h830 rfl ?_
            refine wp_skip ?_
            refine co_then ?_
            refine co_seq ?_
            refine dr_gen (fun x => But (S) w0 x ∧ x.ownsRow 0 47 4 u X.length (X.flatMap entE) ∧ Blk x N33 47 #[.int .i64 c, .int .i64 r, v, .int .u64 ts]) (by kernel_rfl) (fun w833 hg834 => ?_) (fun w833 hg834 => ?_)
            ·
             have hz835 := hg834.size
             have hB836 := fbU_new hB826 hg834
             have hr837 := row_kept_new hr827 hg834
             have hk838 := hk829.kept hg834 (by simp)
             exact ⟨hB836, hr837, hk838⟩
            have hz839 := hg834.size
            have hB840 := fbU_new hB826 hg834
            have hr841 := row_kept_new hr827 hg834
            have hk842 := hk829.kept hg834 (by simp)
            refine dk0 0 (v := pt b 0) h830 rfl rfl ⟨hB840, hr841, hk842⟩ fun a843 h843 => ?_; clear h830
            refine dk0 1 (v := pt b 0) h843 rfl rfl ⟨hB840, hr841, hk842⟩ fun a844 h844 => ?_; clear h843
            refine dk0 2 (v := pt b 0) h844 rfl rfl ⟨hB840, hr841, hk842⟩ fun a845 h845 => ?_; clear h844
            refine dk0 3 (v := pt b 0) h845 rfl rfl ⟨hB840, hr841, hk842⟩ fun a846 h846 => ?_; clear h845
            refine dk0 5 (v := .int .i64 ((j : Nat) : Int)) h846 rfl rfl ⟨hB840, hr841, hk842⟩ fun a847 h847 => ?_; clear h846
            refine dr_many [4, 8] (by kernel_rfl) (by simp) ⟨?_, ?_, trivial⟩
            ·
             have hk848 := hk828.kept hg834 (by simp)
             refine dr_opVal (i := 4) (v := u) h847 rfl rfl rfl rfl (by kernel_rfl) rfl (rn_load1 rfl rfl Try.isAgg39 (hk848.cell rfl)) ⟨hB840, hr841, hk842⟩ (fun a849 h849 => ?_); clear h847
             refine dk 6 (v := subV u 0 j 4) h849 rfl rfl ⟨hB840, hr841, hk842⟩ (fun x hx => (rn_sliceTo rfl rfl rfl Try.underlying39 Try.sizeOf47 (row_sl hx.2.1 entE_len) (by omega) (by omega))) fun a850 h850 => ?_; clear h849
             refine dr_many [7, 8] (by kernel_rfl) (by simp) ⟨?_, ?_, trivial⟩
             ·
              have hbad : badT (X.take ((j : Int) : Int).toNat) (EntT.mk c r (.slice none 0 0) l ts) = false := by first | exact hi232.trans hc241
              have hkj : k = j := by omega
              have hE := setE_f (i := (j : Int)) (v := .slice none 0 0) (by omega) (by omega) (by omega) (by have hq := (by assumption : findN (X.take k) (c, r) = none); rw [hkj] at hq; exact hq) hbad
              have hE853 := hE813.new (below_grown hb824)
              have hE854 := hE853.new hg834
              refine dr_op (i := 7) h850 rfl rfl rfl rfl (op_call (args := #[subV u 0 j 4]) (R := fun res xw => ∃ L2 : List EntT, ∃ u : Value, res = u ∧ xw.ownsRow w833.heap.size 47 4 u L2.length (L2.flatMap entE) ∧ EntsK (fun _ => False) w833.heap.size xw L2 ∧ L2.map e0 = (X.take j).map e0 ∧ Below w833.heap.size w833 xw) rfl rfl rfl (by kernel_rfl) (by kernel_rfl) (Try.call52 _ _) (rcopy17_any (subV u 0 j 4) (X.take j) w833 (sl_take (row_sl hr841 entE_len) _ (by omega)) (entsK_got (EntsK.take hE854 j)) (fun z hz => ((EntsK.take hE854 j) z hz).len) (by rw [List.length_take]; omega)) (by rintro e x ⟨L2, u, rfl, hq857, hq858, hq859, hb860⟩; exact ⟨_, rfl, ⟨L2, u, rfl, hq857, hq858, hq859, hb860⟩⟩)) ?_ ?_; clear h850
              ·
               rintro u856 w852 ⟨L2855, _, rfl, hq857, hq858, hq859, hb860⟩
               have hu861 := row_under hr841 (rfl : w833.heap.size = _)
               have hz862 := hb860.size
               have hl863 := sl_len (row_sl hq857 entE_len)
               have hE864 : EntsK S w0.heap.size w852 L2855 := EntsK.low hq858 (by omega)
               have hl865 := e0_len hq859; rw [List.length_take] at hl865
               have hB866 := fbU_call hB840 hb860
               have hr867 := row_kept_new hr841 (below_grown hb860)
               have hk868 := hk842.below hb860
               exact ⟨hB866, hr867, hk868⟩
              rintro u856 w852 a851 ⟨L2855, _, rfl, hq857, hq858, hq859, hb860⟩ h851
              have hu861 := row_under hr841 (rfl : w833.heap.size = _)
              have hz862 := hb860.size
              have hl863 := sl_len (row_sl hq857 entE_len)
              have hE864 : EntsK S w0.heap.size w852 L2855 := EntsK.low hq858 (by omega)
              have hl865 := e0_len hq859; rw [List.length_take] at hl865
              have hB866 := fbU_call hB840 hb860
              have hr867 := row_kept_new hr841 (below_grown hb860)
              have hk868 := hk842.below hb860
              refine dr_many [8] (by kernel_rfl) (by simp) ⟨?_, trivial⟩
              ·
               refine dr_opVal (i := 8) (v := .agg #[.int .i64 c, .int .i64 r, v, .int .u64 ts]) h851 rfl rfl rfl rfl (by kernel_rfl) rfl (rn_loadN rfl rfl Try.underlying47 rfl (by kernel_rfl) hk868.all) ⟨hB866, hr867, hk868⟩ (fun a869 h869 => ?_); clear h851
               refine d1 9 h869 rfl rfl (op_new (v := fun N => .slice (some ⟨N, 0, none⟩) 1 1) (T := 47) (cs := #[.int .i64 c, .int .i64 r, v, .int .u64 ts]) (by kernel_rfl) (by kernel_rfl) (by kernel_rfl)) ?_ ?_; clear h869
               ·
                rintro _ w871 ⟨N872, rfl, hN875, hz876, hk874, hg873⟩
                have ha877 := row_fresh hr867 hN875
                have hu878 := row_under hr867 hN875
                have hr880 := row_kept_new hy812.row (below_grown hb824)
                have hr881 := row_kept_new hr880 hg834
                have hr882 := row_kept_new hr881 (below_grown hb860)
                have ha879 := row_fresh hr882 hN875
                have hu883 := row_under hr882 hN875
                have ha884 := row_fresh hq857 hN875
                have hu885 := row_under hq857 hN875
                have hz886 := hg873.size
                have hB887 := fbU_new hB866 hg873
                have hr888 := row_kept_new hr867 hg873
                have hk889 := hk868.kept hg873 (by simp)
                exact ⟨hB887, hr888, hk889⟩
               rintro _ w871 a870 ⟨N872, rfl, hN875, hz876, hk874, hg873⟩ h870
               have ha877 := row_fresh hr867 hN875
               have hu878 := row_under hr867 hN875
               have hr880 := row_kept_new hy812.row (below_grown hb824)
               have hr881 := row_kept_new hr880 hg834
               have hr882 := row_kept_new hr881 (below_grown hb860)
               have ha879 := row_fresh hr882 hN875
               have hu883 := row_under hr882 hN875
               have ha884 := row_fresh hq857 hN875
               have hu885 := row_under hq857 hN875
               have hz886 := hg873.size
               try dsimp only at h870
               have hB887 := fbU_new hB866 hg873
               have hr888 := row_kept_new hr867 hg873
               have hk889 := hk868.kept hg873 (by simp)
               have hr892 := row_of_cells (enc := entE) (sz := 4) ([(EntT.mk c r v l ts)] : List EntT) hk874 (Nat.le_refl _) rfl rfl (by unfold maxLen; simp)
               refine d1 10 h870 rfl rfl (op_call (args := #[.slice (some ⟨N872, 0, none⟩) 1 1]) (R := fun res xw => ∃ L2 : List EntT, ∃ u : Value, res = u ∧ xw.ownsRow w871.heap.size 47 4 u L2.length (L2.flatMap entE) ∧ EntsK (fun _ => False) w871.heap.size xw L2 ∧ L2.map e0 = ([(EntT.mk c r v l ts)] : List EntT).map e0 ∧ Below w871.heap.size w871 xw) rfl rfl rfl (by kernel_rfl) (by kernel_rfl) (Try.call52 _ _) (rcopy17_any (.slice (some ⟨N872, 0, none⟩) 1 1) ([(EntT.mk c r v l ts)] : List EntT) w871 (row_sl hr892 entE_len) (fun z hz => by simp only [List.mem_singleton] at hz; subst hz; exact ⟨sl_butN hs hB887 hvS, hen.1, hts.1, hts.2, hen.2.1, hen.2.2⟩) (fun z hz => by simp only [List.mem_singleton] at hz; subst hz; exact hlen) (by simp)) (by rintro e x ⟨L2, u, rfl, hq895, hq896, hq897, hb898⟩; exact ⟨_, rfl, ⟨L2, u, rfl, hq895, hq896, hq897, hb898⟩⟩)) ?_ ?_; clear h870
               ·
                rintro u894 w891 ⟨L2893, _, rfl, hq895, hq896, hq897, hb898⟩
                have hu899 := row_under hr888 (rfl : w871.heap.size = _)
                have hr901 := row_kept_new hq857 hg873
                have hu900 := row_under hr901 (rfl : w871.heap.size = _)
                have hu902 := row_under hr892 (rfl : w871.heap.size = _)
                have hz903 := hb898.size
                have hl904 := sl_len (row_sl hq895 entE_len)
                have hE905 : EntsK S w0.heap.size w891 L2893 := EntsK.low hq896 (by omega)
                have hl906 : L2893.length = 1 := e0_len hq897
                have hB907 := fbU_call hB887 hb898
                have hr908 := row_kept_new hr888 (below_grown hb898)
                have hk909 := hk889.below hb898
                exact ⟨hB907, hr908, hk909⟩
               rintro u894 w891 a890 ⟨L2893, _, rfl, hq895, hq896, hq897, hb898⟩ h890
               have hu899 := row_under hr888 (rfl : w871.heap.size = _)
               have hr901 := row_kept_new hq857 hg873
               have hu900 := row_under hr901 (rfl : w871.heap.size = _)
               have hu902 := row_under hr892 (rfl : w871.heap.size = _)
               have hz903 := hb898.size
               have hl904 := sl_len (row_sl hq895 entE_len)
               have hE905 : EntsK S w0.heap.size w891 L2893 := EntsK.low hq896 (by omega)
               have hl906 : L2893.length = 1 := e0_len hq897
               have hB907 := fbU_call hB887 hb898
               have hr908 := row_kept_new hr888 (below_grown hb898)
               have hk909 := hk889.below hb898
               have hr916 := row_kept_new hr901 (below_grown hb898)
               refine d1 11 h890 rfl rfl (op_appendSrc rfl w833.heap.size 47 (z := .agg #[.int .i64 0, .int .i64 0, .slice none 0 0, .int .u64 0]) (size := 4) (bytes := 48) Try.underlying39 (by kernel_rfl) rfl rfl rfl hr916 rfl (row_sl hq895 entE_len) (fun y hy => ⟨entE_len y, entE_oneK (hE905 y hy)⟩) (by first | omega | (simp only [List.length_nil, List.length_append, List.length_cons, List.length_take, List.length_drop]; omega)) (by first | omega | (simp only [List.length_nil, List.length_append, List.length_cons, List.length_take, List.length_drop]; omega)) (by omega)) ?_ ?_; clear h890
               ·
                rintro v912 w911 ⟨hr913, hg914⟩
                have hr913' : w911.ownsRow w833.heap.size 47 4 v912 ((L2855 ++ L2893).length) ((L2855 ++ L2893).flatMap entE) := row_app hr913; clear hr913
                have hz917 := hg914.size
                have hk918 := hk848.below hb860
                have hk919 := hk918.kept hg873 (by simp)
                have hk920 := hk919.below hb898
                have hB921 := fbU_row hB907 (InS.low hq857 (by omega)) hg914
                have hr922 := row_kept_ap hr908 hr916 hu861 hg914
                have hk923 := hk909.kept hg914 (row_ne_lt hr916 (by omega))
                exact ⟨hB921, hr922, hk923⟩
               rintro v912 w911 a910 ⟨hr913, hg914⟩ h910
               have hr913' : w911.ownsRow w833.heap.size 47 4 v912 ((L2855 ++ L2893).length) ((L2855 ++ L2893).flatMap entE) := row_app hr913; clear hr913
               have hz917 := hg914.size
               have hk918 := hk848.below hb860
               have hk919 := hk918.kept hg873 (by simp)
               have hk920 := hk919.below hb898
               have hB921 := fbU_row hB907 (InS.low hq857 (by omega)) hg914
               have hr922 := row_kept_ap hr908 hr916 hu861 hg914
               have hk923 := hk909.kept hg914 (row_ne_lt hr916 (by omega))
               refine dk0 12 (v := pt b 0) h910 rfl rfl ⟨hB921, hr922, hk923⟩ fun a924 h924 => ?_; clear h910
               refine dk0 13 (v := pt b 0) h924 rfl rfl ⟨hB921, hr922, hk923⟩ fun a925 h925 => ?_; clear h924
               have hk931 := hk920.kept hg914 (own_neT hr916 hk920 (by decide))
               refine d1D 14 h925 rfl rfl (op_store1 rfl rfl rfl (row_one hr913') Try.sizeOf39 hk931 rfl) ?_ ?_; clear h925
               ·
                rintro _ w927 ⟨hk928, hz929, hg930⟩
                have hk928' : Blk w927 b 41 #[v912] := hk928; clear hk928
                have hz932 := hg930.size
                have hB933 := fbU_at hB921 hg930 (fun hlt => by rcases hO.sb with hq | hq; exact hq; omega)
                have hr934 := row_kept_at hr922 hg930 (own_neT hr922 hk931 (by decide))
                have hk935 := hk923.kept hg930 (by simp; omega)
                exact ⟨hB933, hr934, hk935⟩
               rintro _ w927 a926 ⟨hk928, hz929, hg930⟩ h926
               have hk928' : Blk w927 b 41 #[v912] := hk928; clear hk928
               have hz932 := hg930.size
               refine dr_done (by kernel_rfl) ?_
               refine co_then ?_
               refine co_seq ?_
               refine co_reg ?_
               refine pk0 (v := .int .i64 0) h926 rfl fun a933 h933 => ?_; clear h926
               refine pl_nil ?_
               refine co_then ?_
               refine wp_ret ?_
               refine co_ret1 h933 rfl rfl ?_
               have hE934 := hE864.new hg873
               have hE935 := hE934.new (below_grown hb898)
               have hE936 := hE935.row hr916 (by decide) hg914
               have hE937 := hE936.blk hk931 (by decide) hg930
               have hE938 := hE905.row hr916 (by decide) hg914
               have hE939 := hE938.blk hk931 (by decide) hg930
               have hr940 := row_kept_at hr913' hg930 (own_neT hr913' hk931 (by decide))
               have hB941 := fbU_at hB921 hg930 (fun hlt => by rcases hO.sb with hq | hq; exact hq; omega)
               have hT := setL_new (n := (j : Int)) hE (by first | exact nm_n (by assumption) (by assumption) | exact nm_o (by omega)) hq859 hq897
               exact ⟨_, _, ret_int hE.symm, ⟨hk928', (row_lows hr940 (Nat.zero_le _)), (EntsK.app hE937 hE939), hO.sb, (InS.low hr940 (by omega)), (by rw [List.length_append]; omega)⟩, hT, hB941⟩
             ·
              refine dr_opVal (i := 8) (v := .agg #[.int .i64 c, .int .i64 r, v, .int .u64 ts]) h850 rfl rfl rfl rfl (by kernel_rfl) rfl (rn_loadN rfl rfl Try.underlying47 rfl (by kernel_rfl) hk842.all) ⟨hB840, hr841, hk842⟩ (fun a942 h942 => ?_); clear h850
              refine dr_many [7, 9] (by kernel_rfl) (by simp) ⟨?_, ?_, trivial⟩
              ·
               have hbad : badT (X.take ((j : Int) : Int).toNat) (EntT.mk c r (.slice none 0 0) l ts) = false := by first | exact hi232.trans hc241
               have hkj : k = j := by omega
               have hE := setE_f (i := (j : Int)) (v := .slice none 0 0) (by omega) (by omega) (by omega) (by have hq := (by assumption : findN (X.take k) (c, r) = none); rw [hkj] at hq; exact hq) hbad
               have hE945 := hE813.new (below_grown hb824)
               have hE946 := hE945.new hg834
               refine dr_op (i := 7) h942 rfl rfl rfl rfl (op_call (args := #[subV u 0 j 4]) (R := fun res xw => ∃ L2 : List EntT, ∃ u : Value, res = u ∧ xw.ownsRow w833.heap.size 47 4 u L2.length (L2.flatMap entE) ∧ EntsK (fun _ => False) w833.heap.size xw L2 ∧ L2.map e0 = (X.take j).map e0 ∧ Below w833.heap.size w833 xw) rfl rfl rfl (by kernel_rfl) (by kernel_rfl) (Try.call52 _ _) (rcopy17_any (subV u 0 j 4) (X.take j) w833 (sl_take (row_sl hr841 entE_len) _ (by omega)) (entsK_got (EntsK.take hE946 j)) (fun z hz => ((EntsK.take hE946 j) z hz).len) (by rw [List.length_take]; omega)) (by rintro e x ⟨L2, u, rfl, hq949, hq950, hq951, hb952⟩; exact ⟨_, rfl, ⟨L2, u, rfl, hq949, hq950, hq951, hb952⟩⟩)) ?_ ?_; clear h942
               ·
                rintro u948 w944 ⟨L2947, _, rfl, hq949, hq950, hq951, hb952⟩
                have hu953 := row_under hr841 (rfl : w833.heap.size = _)
                have hz954 := hb952.size
                have hl955 := sl_len (row_sl hq949 entE_len)
                have hE956 : EntsK S w0.heap.size w944 L2947 := EntsK.low hq950 (by omega)
                have hl957 := e0_len hq951; rw [List.length_take] at hl957
                have hB958 := fbU_call hB840 hb952
                have hr959 := row_kept_new hr841 (below_grown hb952)
                have hk960 := hk842.below hb952
                exact ⟨hB958, hr959, hk960⟩
               rintro u948 w944 a943 ⟨L2947, _, rfl, hq949, hq950, hq951, hb952⟩ h943
               have hu953 := row_under hr841 (rfl : w833.heap.size = _)
               have hz954 := hb952.size
               have hl955 := sl_len (row_sl hq949 entE_len)
               have hE956 : EntsK S w0.heap.size w944 L2947 := EntsK.low hq950 (by omega)
               have hl957 := e0_len hq951; rw [List.length_take] at hl957
               have hB958 := fbU_call hB840 hb952
               have hr959 := row_kept_new hr841 (below_grown hb952)
               have hk960 := hk842.below hb952
               refine d1 9 h943 rfl rfl (op_new (v := fun N => .slice (some ⟨N, 0, none⟩) 1 1) (T := 47) (cs := #[.int .i64 c, .int .i64 r, v, .int .u64 ts]) (by kernel_rfl) (by kernel_rfl) (by kernel_rfl)) ?_ ?_; clear h943
               ·
                rintro _ w962 ⟨N963, rfl, hN966, hz967, hk965, hg964⟩
                have ha968 := row_fresh hr959 hN966
                have hu969 := row_under hr959 hN966
                have hr971 := row_kept_new hy812.row (below_grown hb824)
                have hr972 := row_kept_new hr971 hg834
                have hr973 := row_kept_new hr972 (below_grown hb952)
                have ha970 := row_fresh hr973 hN966
                have hu974 := row_under hr973 hN966
                have ha975 := row_fresh hq949 hN966
                have hu976 := row_under hq949 hN966
                have hz977 := hg964.size
                have hB978 := fbU_new hB958 hg964
                have hr979 := row_kept_new hr959 hg964
                have hk980 := hk960.kept hg964 (by simp)
                exact ⟨hB978, hr979, hk980⟩
               rintro _ w962 a961 ⟨N963, rfl, hN966, hz967, hk965, hg964⟩ h961
               have ha968 := row_fresh hr959 hN966
               have hu969 := row_under hr959 hN966
               have hr971 := row_kept_new hy812.row (below_grown hb824)
               have hr972 := row_kept_new hr971 hg834
               have hr973 := row_kept_new hr972 (below_grown hb952)
               have ha970 := row_fresh hr973 hN966
               have hu974 := row_under hr973 hN966
               have ha975 := row_fresh hq949 hN966
               have hu976 := row_under hq949 hN966
               have hz977 := hg964.size
               try dsimp only at h961
               have hB978 := fbU_new hB958 hg964
               have hr979 := row_kept_new hr959 hg964
               have hk980 := hk960.kept hg964 (by simp)
               have hr983 := row_of_cells (enc := entE) (sz := 4) ([(EntT.mk c r v l ts)] : List EntT) hk965 (Nat.le_refl _) rfl rfl (by unfold maxLen; simp)
               refine d1 10 h961 rfl rfl (op_call (args := #[.slice (some ⟨N963, 0, none⟩) 1 1]) (R := fun res xw => ∃ L2 : List EntT, ∃ u : Value, res = u ∧ xw.ownsRow w962.heap.size 47 4 u L2.length (L2.flatMap entE) ∧ EntsK (fun _ => False) w962.heap.size xw L2 ∧ L2.map e0 = ([(EntT.mk c r v l ts)] : List EntT).map e0 ∧ Below w962.heap.size w962 xw) rfl rfl rfl (by kernel_rfl) (by kernel_rfl) (Try.call52 _ _) (rcopy17_any (.slice (some ⟨N963, 0, none⟩) 1 1) ([(EntT.mk c r v l ts)] : List EntT) w962 (row_sl hr983 entE_len) (fun z hz => by simp only [List.mem_singleton] at hz; subst hz; exact ⟨sl_butN hs hB978 hvS, hen.1, hts.1, hts.2, hen.2.1, hen.2.2⟩) (fun z hz => by simp only [List.mem_singleton] at hz; subst hz; exact hlen) (by simp)) (by rintro e x ⟨L2, u, rfl, hq986, hq987, hq988, hb989⟩; exact ⟨_, rfl, ⟨L2, u, rfl, hq986, hq987, hq988, hb989⟩⟩)) ?_ ?_; clear h961
               ·
                rintro u985 w982 ⟨L2984, _, rfl, hq986, hq987, hq988, hb989⟩
                have hu990 := row_under hr979 (rfl : w962.heap.size = _)
                have hr992 := row_kept_new hq949 hg964
                have hu991 := row_under hr992 (rfl : w962.heap.size = _)
                have hu993 := row_under hr983 (rfl : w962.heap.size = _)
                have hz994 := hb989.size
                have hl995 := sl_len (row_sl hq986 entE_len)
                have hE996 : EntsK S w0.heap.size w982 L2984 := EntsK.low hq987 (by omega)
                have hl997 : L2984.length = 1 := e0_len hq988
                have hB998 := fbU_call hB978 hb989
                have hr999 := row_kept_new hr979 (below_grown hb989)
                have hk1000 := hk980.below hb989
                exact ⟨hB998, hr999, hk1000⟩
               rintro u985 w982 a981 ⟨L2984, _, rfl, hq986, hq987, hq988, hb989⟩ h981
               have hu990 := row_under hr979 (rfl : w962.heap.size = _)
               have hr992 := row_kept_new hq949 hg964
               have hu991 := row_under hr992 (rfl : w962.heap.size = _)
               have hu993 := row_under hr983 (rfl : w962.heap.size = _)
               have hz994 := hb989.size
               have hl995 := sl_len (row_sl hq986 entE_len)
               have hE996 : EntsK S w0.heap.size w982 L2984 := EntsK.low hq987 (by omega)
               have hl997 : L2984.length = 1 := e0_len hq988
               have hB998 := fbU_call hB978 hb989
               have hr999 := row_kept_new hr979 (below_grown hb989)
               have hk1000 := hk980.below hb989
               have hr1007 := row_kept_new hr992 (below_grown hb989)
               refine d1 11 h981 rfl rfl (op_appendSrc rfl w833.heap.size 47 (z := .agg #[.int .i64 0, .int .i64 0, .slice none 0 0, .int .u64 0]) (size := 4) (bytes := 48) Try.underlying39 (by kernel_rfl) rfl rfl rfl hr1007 rfl (row_sl hq986 entE_len) (fun y hy => ⟨entE_len y, entE_oneK (hE996 y hy)⟩) (by first | omega | (simp only [List.length_nil, List.length_append, List.length_cons, List.length_take, List.length_drop]; omega)) (by first | omega | (simp only [List.length_nil, List.length_append, List.length_cons, List.length_take, List.length_drop]; omega)) (by omega)) ?_ ?_; clear h981
               ·
                rintro v1003 w1002 ⟨hr1004, hg1005⟩
                have hr1004' : w1002.ownsRow w833.heap.size 47 4 v1003 ((L2947 ++ L2984).length) ((L2947 ++ L2984).flatMap entE) := row_app hr1004; clear hr1004
                have hz1008 := hg1005.size
                have hk1009 := hk848.below hb952
                have hk1010 := hk1009.kept hg964 (by simp)
                have hk1011 := hk1010.below hb989
                have hB1012 := fbU_row hB998 (InS.low hq949 (by omega)) hg1005
                have hr1013 := row_kept_ap hr999 hr1007 hu953 hg1005
                have hk1014 := hk1000.kept hg1005 (row_ne_lt hr1007 (by omega))
                exact ⟨hB1012, hr1013, hk1014⟩
               rintro v1003 w1002 a1001 ⟨hr1004, hg1005⟩ h1001
               have hr1004' : w1002.ownsRow w833.heap.size 47 4 v1003 ((L2947 ++ L2984).length) ((L2947 ++ L2984).flatMap entE) := row_app hr1004; clear hr1004
               have hz1008 := hg1005.size
               have hk1009 := hk848.below hb952
               have hk1010 := hk1009.kept hg964 (by simp)
               have hk1011 := hk1010.below hb989
               have hB1012 := fbU_row hB998 (InS.low hq949 (by omega)) hg1005
               have hr1013 := row_kept_ap hr999 hr1007 hu953 hg1005
               have hk1014 := hk1000.kept hg1005 (row_ne_lt hr1007 (by omega))
               refine dk0 12 (v := pt b 0) h1001 rfl rfl ⟨hB1012, hr1013, hk1014⟩ fun a1015 h1015 => ?_; clear h1001
               refine dk0 13 (v := pt b 0) h1015 rfl rfl ⟨hB1012, hr1013, hk1014⟩ fun a1016 h1016 => ?_; clear h1015
               have hk1022 := hk1011.kept hg1005 (own_neT hr1007 hk1011 (by decide))
               refine d1D 14 h1016 rfl rfl (op_store1 rfl rfl rfl (row_one hr1004') Try.sizeOf39 hk1022 rfl) ?_ ?_; clear h1016
               ·
                rintro _ w1018 ⟨hk1019, hz1020, hg1021⟩
                have hk1019' : Blk w1018 b 41 #[v1003] := hk1019; clear hk1019
                have hz1023 := hg1021.size
                have hB1024 := fbU_at hB1012 hg1021 (fun hlt => by rcases hO.sb with hq | hq; exact hq; omega)
                have hr1025 := row_kept_at hr1013 hg1021 (own_neT hr1013 hk1022 (by decide))
                have hk1026 := hk1014.kept hg1021 (by simp; omega)
                exact ⟨hB1024, hr1025, hk1026⟩
               rintro _ w1018 a1017 ⟨hk1019, hz1020, hg1021⟩ h1017
               have hk1019' : Blk w1018 b 41 #[v1003] := hk1019; clear hk1019
               have hz1023 := hg1021.size
               refine dr_done (by kernel_rfl) ?_
               refine co_then ?_
               refine co_seq ?_
               refine co_reg ?_
               refine pk0 (v := .int .i64 0) h1017 rfl fun a1024 h1024 => ?_; clear h1017
               refine pl_nil ?_
               refine co_then ?_
               refine wp_ret ?_
               refine co_ret1 h1024 rfl rfl ?_
               have hE1025 := hE956.new hg964
               have hE1026 := hE1025.new (below_grown hb989)
               have hE1027 := hE1026.row hr1007 (by decide) hg1005
               have hE1028 := hE1027.blk hk1022 (by decide) hg1021
               have hE1029 := hE996.row hr1007 (by decide) hg1005
               have hE1030 := hE1029.blk hk1022 (by decide) hg1021
               have hr1031 := row_kept_at hr1004' hg1021 (own_neT hr1004' hk1022 (by decide))
               have hB1032 := fbU_at hB1012 hg1021 (fun hlt => by rcases hO.sb with hq | hq; exact hq; omega)
               have hT := setL_new (n := (j : Int)) hE (by first | exact nm_n (by assumption) (by assumption) | exact nm_o (by omega)) hq951 hq988
               exact ⟨_, _, ret_int hE.symm, ⟨hk1019', (row_lows hr1031 (Nat.zero_le _)), (EntsK.app hE1028 hE1030), hO.sb, (InS.low hr1031 (by omega)), (by rw [List.length_append]; omega)⟩, hT, hB1032⟩
              ·
               refine dr_op (i := 9) h942 rfl rfl rfl rfl (op_new (v := fun N => .slice (some ⟨N, 0, none⟩) 1 1) (T := 47) (cs := #[.int .i64 c, .int .i64 r, v, .int .u64 ts]) (by kernel_rfl) (by kernel_rfl) (by kernel_rfl)) ?_ ?_; clear h942
               ·
                rintro _ w1034 ⟨N1035, rfl, hN1038, hz1039, hk1037, hg1036⟩
                have ha1040 := row_fresh hr841 hN1038
                have hu1041 := row_under hr841 hN1038
                have hr1043 := row_kept_new hy812.row (below_grown hb824)
                have hr1044 := row_kept_new hr1043 hg834
                have ha1042 := row_fresh hr1044 hN1038
                have hu1045 := row_under hr1044 hN1038
                have hz1046 := hg1036.size
                have hB1047 := fbU_new hB840 hg1036
                have hr1048 := row_kept_new hr841 hg1036
                have hk1049 := hk842.kept hg1036 (by simp)
                exact ⟨hB1047, hr1048, hk1049⟩
               rintro _ w1034 a1033 ⟨N1035, rfl, hN1038, hz1039, hk1037, hg1036⟩ h1033
               have ha1040 := row_fresh hr841 hN1038
               have hu1041 := row_under hr841 hN1038
               have hr1043 := row_kept_new hy812.row (below_grown hb824)
               have hr1044 := row_kept_new hr1043 hg834
               have ha1042 := row_fresh hr1044 hN1038
               have hu1045 := row_under hr1044 hN1038
               have hz1046 := hg1036.size
               try dsimp only at h1033
               have hB1047 := fbU_new hB840 hg1036
               have hr1048 := row_kept_new hr841 hg1036
               have hk1049 := hk842.kept hg1036 (by simp)
               have hbad : badT (X.take ((j : Int) : Int).toNat) (EntT.mk c r (.slice none 0 0) l ts) = false := by first | exact hi232.trans hc241
               have hkj : k = j := by omega
               have hE := setE_f (i := (j : Int)) (v := .slice none 0 0) (by omega) (by omega) (by omega) (by have hq := (by assumption : findN (X.take k) (c, r) = none); rw [hkj] at hq; exact hq) hbad
               have hE1052 := hE813.new (below_grown hb824)
               have hE1053 := hE1052.new hg834
               have hE1054 := hE1053.new hg1036
               refine d1 7 h1033 rfl rfl (op_call (args := #[subV u 0 j 4]) (R := fun res xw => ∃ L2 : List EntT, ∃ u : Value, res = u ∧ xw.ownsRow w1034.heap.size 47 4 u L2.length (L2.flatMap entE) ∧ EntsK (fun _ => False) w1034.heap.size xw L2 ∧ L2.map e0 = (X.take j).map e0 ∧ Below w1034.heap.size w1034 xw) rfl rfl rfl (by kernel_rfl) (by kernel_rfl) (Try.call52 _ _) (rcopy17_any (subV u 0 j 4) (X.take j) w1034 (sl_take (row_sl hr1048 entE_len) _ (by omega)) (entsK_got (EntsK.take hE1054 j)) (fun z hz => ((EntsK.take hE1054 j) z hz).len) (by rw [List.length_take]; omega)) (by rintro e x ⟨L2, u, rfl, hq1057, hq1058, hq1059, hb1060⟩; exact ⟨_, rfl, ⟨L2, u, rfl, hq1057, hq1058, hq1059, hb1060⟩⟩)) ?_ ?_; clear h1033
               ·
                rintro u1056 w1051 ⟨L21055, _, rfl, hq1057, hq1058, hq1059, hb1060⟩
                have hu1061 := row_under hr1048 (rfl : w1034.heap.size = _)
                have hz1062 := hb1060.size
                have hl1063 := sl_len (row_sl hq1057 entE_len)
                have hE1064 : EntsK S w0.heap.size w1051 L21055 := EntsK.low hq1058 (by omega)
                have hl1065 := e0_len hq1059; rw [List.length_take] at hl1065
                have hB1066 := fbU_call hB1047 hb1060
                have hr1067 := row_kept_new hr1048 (below_grown hb1060)
                have hk1068 := hk1049.below hb1060
                exact ⟨hB1066, hr1067, hk1068⟩
               rintro u1056 w1051 a1050 ⟨L21055, _, rfl, hq1057, hq1058, hq1059, hb1060⟩ h1050
               have hu1061 := row_under hr1048 (rfl : w1034.heap.size = _)
               have hz1062 := hb1060.size
               have hl1063 := sl_len (row_sl hq1057 entE_len)
               have hE1064 : EntsK S w0.heap.size w1051 L21055 := EntsK.low hq1058 (by omega)
               have hl1065 := e0_len hq1059; rw [List.length_take] at hl1065
               have hB1066 := fbU_call hB1047 hb1060
               have hr1067 := row_kept_new hr1048 (below_grown hb1060)
               have hk1068 := hk1049.below hb1060
               have hk1072 := hk1037.below hb1060
               have hr1071 := row_of_cells (enc := entE) (sz := 4) ([(EntT.mk c r v l ts)] : List EntT) hk1072 (Nat.le_refl _) rfl rfl (by unfold maxLen; simp)
               refine d1 10 h1050 rfl rfl (op_call (args := #[.slice (some ⟨N1035, 0, none⟩) 1 1]) (R := fun res xw => ∃ L2 : List EntT, ∃ u : Value, res = u ∧ xw.ownsRow w1051.heap.size 47 4 u L2.length (L2.flatMap entE) ∧ EntsK (fun _ => False) w1051.heap.size xw L2 ∧ L2.map e0 = ([(EntT.mk c r v l ts)] : List EntT).map e0 ∧ Below w1051.heap.size w1051 xw) rfl rfl rfl (by kernel_rfl) (by kernel_rfl) (Try.call52 _ _) (rcopy17_any (.slice (some ⟨N1035, 0, none⟩) 1 1) ([(EntT.mk c r v l ts)] : List EntT) w1051 (row_sl hr1071 entE_len) (fun z hz => by simp only [List.mem_singleton] at hz; subst hz; exact ⟨sl_butN hs hB1066 hvS, hen.1, hts.1, hts.2, hen.2.1, hen.2.2⟩) (fun z hz => by simp only [List.mem_singleton] at hz; subst hz; exact hlen) (by simp)) (by rintro e x ⟨L2, u, rfl, hq1075, hq1076, hq1077, hb1078⟩; exact ⟨_, rfl, ⟨L2, u, rfl, hq1075, hq1076, hq1077, hb1078⟩⟩)) ?_ ?_; clear h1050
               ·
                rintro u1074 w1070 ⟨L21073, _, rfl, hq1075, hq1076, hq1077, hb1078⟩
                have hu1079 := row_under hr1067 (rfl : w1051.heap.size = _)
                have hu1080 := row_under hq1057 (rfl : w1051.heap.size = _)
                have hu1081 := row_under hr1071 (rfl : w1051.heap.size = _)
                have hz1082 := hb1078.size
                have hl1083 := sl_len (row_sl hq1075 entE_len)
                have hE1084 : EntsK S w0.heap.size w1070 L21073 := EntsK.low hq1076 (by omega)
                have hl1085 : L21073.length = 1 := e0_len hq1077
                have hB1086 := fbU_call hB1066 hb1078
                have hr1087 := row_kept_new hr1067 (below_grown hb1078)
                have hk1088 := hk1068.below hb1078
                exact ⟨hB1086, hr1087, hk1088⟩
               rintro u1074 w1070 a1069 ⟨L21073, _, rfl, hq1075, hq1076, hq1077, hb1078⟩ h1069
               have hu1079 := row_under hr1067 (rfl : w1051.heap.size = _)
               have hu1080 := row_under hq1057 (rfl : w1051.heap.size = _)
               have hu1081 := row_under hr1071 (rfl : w1051.heap.size = _)
               have hz1082 := hb1078.size
               have hl1083 := sl_len (row_sl hq1075 entE_len)
               have hE1084 : EntsK S w0.heap.size w1070 L21073 := EntsK.low hq1076 (by omega)
               have hl1085 : L21073.length = 1 := e0_len hq1077
               have hB1086 := fbU_call hB1066 hb1078
               have hr1087 := row_kept_new hr1067 (below_grown hb1078)
               have hk1088 := hk1068.below hb1078
               have hr1095 := row_kept_new hq1057 (below_grown hb1078)
               refine d1 11 h1069 rfl rfl (op_appendSrc rfl w1034.heap.size 47 (z := .agg #[.int .i64 0, .int .i64 0, .slice none 0 0, .int .u64 0]) (size := 4) (bytes := 48) Try.underlying39 (by kernel_rfl) rfl rfl rfl hr1095 rfl (row_sl hq1075 entE_len) (fun y hy => ⟨entE_len y, entE_oneK (hE1084 y hy)⟩) (by first | omega | (simp only [List.length_nil, List.length_append, List.length_cons, List.length_take, List.length_drop]; omega)) (by first | omega | (simp only [List.length_nil, List.length_append, List.length_cons, List.length_take, List.length_drop]; omega)) (by omega)) ?_ ?_; clear h1069
               ·
                rintro v1091 w1090 ⟨hr1092, hg1093⟩
                have hr1092' : w1090.ownsRow w1034.heap.size 47 4 v1091 ((L21055 ++ L21073).length) ((L21055 ++ L21073).flatMap entE) := row_app hr1092; clear hr1092
                have hz1096 := hg1093.size
                have hk1097 := hk848.kept hg1036 (by simp)
                have hk1098 := hk1097.below hb1060
                have hk1099 := hk1098.below hb1078
                have hB1100 := fbU_row hB1086 (InS.low hq1057 (by omega)) hg1093
                have hr1101 := row_kept_ap hr1087 hr1095 hu1061 hg1093
                have hk1102 := hk1088.kept hg1093 (row_ne_lt hr1095 (by omega))
                exact ⟨hB1100, hr1101, hk1102⟩
               rintro v1091 w1090 a1089 ⟨hr1092, hg1093⟩ h1089
               have hr1092' : w1090.ownsRow w1034.heap.size 47 4 v1091 ((L21055 ++ L21073).length) ((L21055 ++ L21073).flatMap entE) := row_app hr1092; clear hr1092
               have hz1096 := hg1093.size
               have hk1097 := hk848.kept hg1036 (by simp)
               have hk1098 := hk1097.below hb1060
               have hk1099 := hk1098.below hb1078
               have hB1100 := fbU_row hB1086 (InS.low hq1057 (by omega)) hg1093
               have hr1101 := row_kept_ap hr1087 hr1095 hu1061 hg1093
               have hk1102 := hk1088.kept hg1093 (row_ne_lt hr1095 (by omega))
               refine dk0 12 (v := pt b 0) h1089 rfl rfl ⟨hB1100, hr1101, hk1102⟩ fun a1103 h1103 => ?_; clear h1089
               refine dk0 13 (v := pt b 0) h1103 rfl rfl ⟨hB1100, hr1101, hk1102⟩ fun a1104 h1104 => ?_; clear h1103
               have hk1110 := hk1099.kept hg1093 (own_neT hr1095 hk1099 (by decide))
               refine d1D 14 h1104 rfl rfl (op_store1 rfl rfl rfl (row_one hr1092') Try.sizeOf39 hk1110 rfl) ?_ ?_; clear h1104
               ·
                rintro _ w1106 ⟨hk1107, hz1108, hg1109⟩
                have hk1107' : Blk w1106 b 41 #[v1091] := hk1107; clear hk1107
                have hz1111 := hg1109.size
                have hB1112 := fbU_at hB1100 hg1109 (fun hlt => by rcases hO.sb with hq | hq; exact hq; omega)
                have hr1113 := row_kept_at hr1101 hg1109 (own_neT hr1101 hk1110 (by decide))
                have hk1114 := hk1102.kept hg1109 (by simp; omega)
                exact ⟨hB1112, hr1113, hk1114⟩
               rintro _ w1106 a1105 ⟨hk1107, hz1108, hg1109⟩ h1105
               have hk1107' : Blk w1106 b 41 #[v1091] := hk1107; clear hk1107
               have hz1111 := hg1109.size
               refine dr_done (by kernel_rfl) ?_
               refine co_then ?_
               refine co_seq ?_
               refine co_reg ?_
               refine pk0 (v := .int .i64 0) h1105 rfl fun a1112 h1112 => ?_; clear h1105
               refine pl_nil ?_
               refine co_then ?_
               refine wp_ret ?_
               refine co_ret1 h1112 rfl rfl ?_
               have hE1113 := hE1064.new (below_grown hb1078)
               have hE1114 := hE1113.row hr1095 (by decide) hg1093
               have hE1115 := hE1114.blk hk1110 (by decide) hg1109
               have hE1116 := hE1084.row hr1095 (by decide) hg1093
               have hE1117 := hE1116.blk hk1110 (by decide) hg1109
               have hr1118 := row_kept_at hr1092' hg1109 (own_neT hr1092' hk1110 (by decide))
               have hB1119 := fbU_at hB1100 hg1109 (fun hlt => by rcases hO.sb with hq | hq; exact hq; omega)
               have hT := setL_new (n := (j : Int)) hE (by first | exact nm_n (by assumption) (by assumption) | exact nm_o (by omega)) hq1059 hq1077
               exact ⟨_, _, ret_int hE.symm, ⟨hk1107', (row_lows hr1118 (Nat.zero_le _)), (EntsK.app hE1115 hE1117), hO.sb, (InS.low hr1118 (by omega)), (by rw [List.length_append]; omega)⟩, hT, hB1119⟩
            ·
             refine dr_opVal (i := 8) (v := .agg #[.int .i64 c, .int .i64 r, v, .int .u64 ts]) h847 rfl rfl rfl rfl (by kernel_rfl) rfl (rn_loadN rfl rfl Try.underlying47 rfl (by kernel_rfl) hk842.all) ⟨hB840, hr841, hk842⟩ (fun a1120 h1120 => ?_); clear h847
             refine dr_many [4, 9] (by kernel_rfl) (by simp) ⟨?_, ?_, trivial⟩
             ·
              have hk1121 := hk828.kept hg834 (by simp)
              refine dr_opVal (i := 4) (v := u) h1120 rfl rfl rfl rfl (by kernel_rfl) rfl (rn_load1 rfl rfl Try.isAgg39 (hk1121.cell rfl)) ⟨hB840, hr841, hk842⟩ (fun a1122 h1122 => ?_); clear h1120
              refine dk 6 (v := subV u 0 j 4) h1122 rfl rfl ⟨hB840, hr841, hk842⟩ (fun x hx => (rn_sliceTo rfl rfl rfl Try.underlying39 Try.sizeOf47 (row_sl hx.2.1 entE_len) (by omega) (by omega))) fun a1123 h1123 => ?_; clear h1122
              refine dr_many [7, 9] (by kernel_rfl) (by simp) ⟨?_, ?_, trivial⟩
              ·
               have hbad : badT (X.take ((j : Int) : Int).toNat) (EntT.mk c r (.slice none 0 0) l ts) = false := by first | exact hi232.trans hc241
               have hkj : k = j := by omega
               have hE := setE_f (i := (j : Int)) (v := .slice none 0 0) (by omega) (by omega) (by omega) (by have hq := (by assumption : findN (X.take k) (c, r) = none); rw [hkj] at hq; exact hq) hbad
               have hE1126 := hE813.new (below_grown hb824)
               have hE1127 := hE1126.new hg834
               refine dr_op (i := 7) h1123 rfl rfl rfl rfl (op_call (args := #[subV u 0 j 4]) (R := fun res xw => ∃ L2 : List EntT, ∃ u : Value, res = u ∧ xw.ownsRow w833.heap.size 47 4 u L2.length (L2.flatMap entE) ∧ EntsK (fun _ => False) w833.heap.size xw L2 ∧ L2.map e0 = (X.take j).map e0 ∧ Below w833.heap.size w833 xw) rfl rfl rfl (by kernel_rfl) (by kernel_rfl) (Try.call52 _ _) (rcopy17_any (subV u 0 j 4) (X.take j) w833 (sl_take (row_sl hr841 entE_len) _ (by omega)) (entsK_got (EntsK.take hE1127 j)) (fun z hz => ((EntsK.take hE1127 j) z hz).len) (by rw [List.length_take]; omega)) (by rintro e x ⟨L2, u, rfl, hq1130, hq1131, hq1132, hb1133⟩; exact ⟨_, rfl, ⟨L2, u, rfl, hq1130, hq1131, hq1132, hb1133⟩⟩)) ?_ ?_; clear h1123
               ·
                rintro u1129 w1125 ⟨L21128, _, rfl, hq1130, hq1131, hq1132, hb1133⟩
                have hu1134 := row_under hr841 (rfl : w833.heap.size = _)
                have hz1135 := hb1133.size
                have hl1136 := sl_len (row_sl hq1130 entE_len)
                have hE1137 : EntsK S w0.heap.size w1125 L21128 := EntsK.low hq1131 (by omega)
                have hl1138 := e0_len hq1132; rw [List.length_take] at hl1138
                have hB1139 := fbU_call hB840 hb1133
                have hr1140 := row_kept_new hr841 (below_grown hb1133)
                have hk1141 := hk842.below hb1133
                exact ⟨hB1139, hr1140, hk1141⟩
               rintro u1129 w1125 a1124 ⟨L21128, _, rfl, hq1130, hq1131, hq1132, hb1133⟩ h1124
               have hu1134 := row_under hr841 (rfl : w833.heap.size = _)
               have hz1135 := hb1133.size
               have hl1136 := sl_len (row_sl hq1130 entE_len)
               have hE1137 : EntsK S w0.heap.size w1125 L21128 := EntsK.low hq1131 (by omega)
               have hl1138 := e0_len hq1132; rw [List.length_take] at hl1138
               have hB1139 := fbU_call hB840 hb1133
               have hr1140 := row_kept_new hr841 (below_grown hb1133)
               have hk1141 := hk842.below hb1133
               refine d1 9 h1124 rfl rfl (op_new (v := fun N => .slice (some ⟨N, 0, none⟩) 1 1) (T := 47) (cs := #[.int .i64 c, .int .i64 r, v, .int .u64 ts]) (by kernel_rfl) (by kernel_rfl) (by kernel_rfl)) ?_ ?_; clear h1124
               ·
                rintro _ w1143 ⟨N1144, rfl, hN1147, hz1148, hk1146, hg1145⟩
                have ha1149 := row_fresh hr1140 hN1147
                have hu1150 := row_under hr1140 hN1147
                have hr1152 := row_kept_new hy812.row (below_grown hb824)
                have hr1153 := row_kept_new hr1152 hg834
                have hr1154 := row_kept_new hr1153 (below_grown hb1133)
                have ha1151 := row_fresh hr1154 hN1147
                have hu1155 := row_under hr1154 hN1147
                have ha1156 := row_fresh hq1130 hN1147
                have hu1157 := row_under hq1130 hN1147
                have hz1158 := hg1145.size
                have hB1159 := fbU_new hB1139 hg1145
                have hr1160 := row_kept_new hr1140 hg1145
                have hk1161 := hk1141.kept hg1145 (by simp)
                exact ⟨hB1159, hr1160, hk1161⟩
               rintro _ w1143 a1142 ⟨N1144, rfl, hN1147, hz1148, hk1146, hg1145⟩ h1142
               have ha1149 := row_fresh hr1140 hN1147
               have hu1150 := row_under hr1140 hN1147
               have hr1152 := row_kept_new hy812.row (below_grown hb824)
               have hr1153 := row_kept_new hr1152 hg834
               have hr1154 := row_kept_new hr1153 (below_grown hb1133)
               have ha1151 := row_fresh hr1154 hN1147
               have hu1155 := row_under hr1154 hN1147
               have ha1156 := row_fresh hq1130 hN1147
               have hu1157 := row_under hq1130 hN1147
               have hz1158 := hg1145.size
               try dsimp only at h1142
               have hB1159 := fbU_new hB1139 hg1145
               have hr1160 := row_kept_new hr1140 hg1145
               have hk1161 := hk1141.kept hg1145 (by simp)
               have hr1164 := row_of_cells (enc := entE) (sz := 4) ([(EntT.mk c r v l ts)] : List EntT) hk1146 (Nat.le_refl _) rfl rfl (by unfold maxLen; simp)
               refine d1 10 h1142 rfl rfl (op_call (args := #[.slice (some ⟨N1144, 0, none⟩) 1 1]) (R := fun res xw => ∃ L2 : List EntT, ∃ u : Value, res = u ∧ xw.ownsRow w1143.heap.size 47 4 u L2.length (L2.flatMap entE) ∧ EntsK (fun _ => False) w1143.heap.size xw L2 ∧ L2.map e0 = ([(EntT.mk c r v l ts)] : List EntT).map e0 ∧ Below w1143.heap.size w1143 xw) rfl rfl rfl (by kernel_rfl) (by kernel_rfl) (Try.call52 _ _) (rcopy17_any (.slice (some ⟨N1144, 0, none⟩) 1 1) ([(EntT.mk c r v l ts)] : List EntT) w1143 (row_sl hr1164 entE_len) (fun z hz => by simp only [List.mem_singleton] at hz; subst hz; exact ⟨sl_butN hs hB1159 hvS, hen.1, hts.1, hts.2, hen.2.1, hen.2.2⟩) (fun z hz => by simp only [List.mem_singleton] at hz; subst hz; exact hlen) (by simp)) (by rintro e x ⟨L2, u, rfl, hq1167, hq1168, hq1169, hb1170⟩; exact ⟨_, rfl, ⟨L2, u, rfl, hq1167, hq1168, hq1169, hb1170⟩⟩)) ?_ ?_; clear h1142
               ·
                rintro u1166 w1163 ⟨L21165, _, rfl, hq1167, hq1168, hq1169, hb1170⟩
                have hu1171 := row_under hr1160 (rfl : w1143.heap.size = _)
                have hr1173 := row_kept_new hq1130 hg1145
                have hu1172 := row_under hr1173 (rfl : w1143.heap.size = _)
                have hu1174 := row_under hr1164 (rfl : w1143.heap.size = _)
                have hz1175 := hb1170.size
                have hl1176 := sl_len (row_sl hq1167 entE_len)
                have hE1177 : EntsK S w0.heap.size w1163 L21165 := EntsK.low hq1168 (by omega)
                have hl1178 : L21165.length = 1 := e0_len hq1169
                have hB1179 := fbU_call hB1159 hb1170
                have hr1180 := row_kept_new hr1160 (below_grown hb1170)
                have hk1181 := hk1161.below hb1170
                exact ⟨hB1179, hr1180, hk1181⟩
               rintro u1166 w1163 a1162 ⟨L21165, _, rfl, hq1167, hq1168, hq1169, hb1170⟩ h1162
               have hu1171 := row_under hr1160 (rfl : w1143.heap.size = _)
               have hr1173 := row_kept_new hq1130 hg1145
               have hu1172 := row_under hr1173 (rfl : w1143.heap.size = _)
               have hu1174 := row_under hr1164 (rfl : w1143.heap.size = _)
               have hz1175 := hb1170.size
               have hl1176 := sl_len (row_sl hq1167 entE_len)
               have hE1177 : EntsK S w0.heap.size w1163 L21165 := EntsK.low hq1168 (by omega)
               have hl1178 : L21165.length = 1 := e0_len hq1169
               have hB1179 := fbU_call hB1159 hb1170
               have hr1180 := row_kept_new hr1160 (below_grown hb1170)
               have hk1181 := hk1161.below hb1170
               have hr1188 := row_kept_new hr1173 (below_grown hb1170)
               refine d1 11 h1162 rfl rfl (op_appendSrc rfl w833.heap.size 47 (z := .agg #[.int .i64 0, .int .i64 0, .slice none 0 0, .int .u64 0]) (size := 4) (bytes := 48) Try.underlying39 (by kernel_rfl) rfl rfl rfl hr1188 rfl (row_sl hq1167 entE_len) (fun y hy => ⟨entE_len y, entE_oneK (hE1177 y hy)⟩) (by first | omega | (simp only [List.length_nil, List.length_append, List.length_cons, List.length_take, List.length_drop]; omega)) (by first | omega | (simp only [List.length_nil, List.length_append, List.length_cons, List.length_take, List.length_drop]; omega)) (by omega)) ?_ ?_; clear h1162
               ·
                rintro v1184 w1183 ⟨hr1185, hg1186⟩
                have hr1185' : w1183.ownsRow w833.heap.size 47 4 v1184 ((L21128 ++ L21165).length) ((L21128 ++ L21165).flatMap entE) := row_app hr1185; clear hr1185
                have hz1189 := hg1186.size
                have hk1190 := hk1121.below hb1133
                have hk1191 := hk1190.kept hg1145 (by simp)
                have hk1192 := hk1191.below hb1170
                have hB1193 := fbU_row hB1179 (InS.low hq1130 (by omega)) hg1186
                have hr1194 := row_kept_ap hr1180 hr1188 hu1134 hg1186
                have hk1195 := hk1181.kept hg1186 (row_ne_lt hr1188 (by omega))
                exact ⟨hB1193, hr1194, hk1195⟩
               rintro v1184 w1183 a1182 ⟨hr1185, hg1186⟩ h1182
               have hr1185' : w1183.ownsRow w833.heap.size 47 4 v1184 ((L21128 ++ L21165).length) ((L21128 ++ L21165).flatMap entE) := row_app hr1185; clear hr1185
               have hz1189 := hg1186.size
               have hk1190 := hk1121.below hb1133
               have hk1191 := hk1190.kept hg1145 (by simp)
               have hk1192 := hk1191.below hb1170
               have hB1193 := fbU_row hB1179 (InS.low hq1130 (by omega)) hg1186
               have hr1194 := row_kept_ap hr1180 hr1188 hu1134 hg1186
               have hk1195 := hk1181.kept hg1186 (row_ne_lt hr1188 (by omega))
               refine dk0 12 (v := pt b 0) h1182 rfl rfl ⟨hB1193, hr1194, hk1195⟩ fun a1196 h1196 => ?_; clear h1182
               refine dk0 13 (v := pt b 0) h1196 rfl rfl ⟨hB1193, hr1194, hk1195⟩ fun a1197 h1197 => ?_; clear h1196
               have hk1203 := hk1192.kept hg1186 (own_neT hr1188 hk1192 (by decide))
               refine d1D 14 h1197 rfl rfl (op_store1 rfl rfl rfl (row_one hr1185') Try.sizeOf39 hk1203 rfl) ?_ ?_; clear h1197
               ·
                rintro _ w1199 ⟨hk1200, hz1201, hg1202⟩
                have hk1200' : Blk w1199 b 41 #[v1184] := hk1200; clear hk1200
                have hz1204 := hg1202.size
                have hB1205 := fbU_at hB1193 hg1202 (fun hlt => by rcases hO.sb with hq | hq; exact hq; omega)
                have hr1206 := row_kept_at hr1194 hg1202 (own_neT hr1194 hk1203 (by decide))
                have hk1207 := hk1195.kept hg1202 (by simp; omega)
                exact ⟨hB1205, hr1206, hk1207⟩
               rintro _ w1199 a1198 ⟨hk1200, hz1201, hg1202⟩ h1198
               have hk1200' : Blk w1199 b 41 #[v1184] := hk1200; clear hk1200
               have hz1204 := hg1202.size
               refine dr_done (by kernel_rfl) ?_
               refine co_then ?_
               refine co_seq ?_
               refine co_reg ?_
               refine pk0 (v := .int .i64 0) h1198 rfl fun a1205 h1205 => ?_; clear h1198
               refine pl_nil ?_
               refine co_then ?_
               refine wp_ret ?_
               refine co_ret1 h1205 rfl rfl ?_
               have hE1206 := hE1137.new hg1145
               have hE1207 := hE1206.new (below_grown hb1170)
               have hE1208 := hE1207.row hr1188 (by decide) hg1186
               have hE1209 := hE1208.blk hk1203 (by decide) hg1202
               have hE1210 := hE1177.row hr1188 (by decide) hg1186
               have hE1211 := hE1210.blk hk1203 (by decide) hg1202
               have hr1212 := row_kept_at hr1185' hg1202 (own_neT hr1185' hk1203 (by decide))
               have hB1213 := fbU_at hB1193 hg1202 (fun hlt => by rcases hO.sb with hq | hq; exact hq; omega)
               have hT := setL_new (n := (j : Int)) hE (by first | exact nm_n (by assumption) (by assumption) | exact nm_o (by omega)) hq1132 hq1169
               exact ⟨_, _, ret_int hE.symm, ⟨hk1200', (row_lows hr1212 (Nat.zero_le _)), (EntsK.app hE1209 hE1211), hO.sb, (InS.low hr1212 (by omega)), (by rw [List.length_append]; omega)⟩, hT, hB1213⟩
              ·
               refine dr_op (i := 9) h1123 rfl rfl rfl rfl (op_new (v := fun N => .slice (some ⟨N, 0, none⟩) 1 1) (T := 47) (cs := #[.int .i64 c, .int .i64 r, v, .int .u64 ts]) (by kernel_rfl) (by kernel_rfl) (by kernel_rfl)) ?_ ?_; clear h1123
               ·
                rintro _ w1215 ⟨N1216, rfl, hN1219, hz1220, hk1218, hg1217⟩
                have ha1221 := row_fresh hr841 hN1219
                have hu1222 := row_under hr841 hN1219
                have hr1224 := row_kept_new hy812.row (below_grown hb824)
                have hr1225 := row_kept_new hr1224 hg834
                have ha1223 := row_fresh hr1225 hN1219
                have hu1226 := row_under hr1225 hN1219
                have hz1227 := hg1217.size
                have hB1228 := fbU_new hB840 hg1217
                have hr1229 := row_kept_new hr841 hg1217
                have hk1230 := hk842.kept hg1217 (by simp)
                exact ⟨hB1228, hr1229, hk1230⟩
               rintro _ w1215 a1214 ⟨N1216, rfl, hN1219, hz1220, hk1218, hg1217⟩ h1214
               have ha1221 := row_fresh hr841 hN1219
               have hu1222 := row_under hr841 hN1219
               have hr1224 := row_kept_new hy812.row (below_grown hb824)
               have hr1225 := row_kept_new hr1224 hg834
               have ha1223 := row_fresh hr1225 hN1219
               have hu1226 := row_under hr1225 hN1219
               have hz1227 := hg1217.size
               try dsimp only at h1214
               have hB1228 := fbU_new hB840 hg1217
               have hr1229 := row_kept_new hr841 hg1217
               have hk1230 := hk842.kept hg1217 (by simp)
               have hbad : badT (X.take ((j : Int) : Int).toNat) (EntT.mk c r (.slice none 0 0) l ts) = false := by first | exact hi232.trans hc241
               have hkj : k = j := by omega
               have hE := setE_f (i := (j : Int)) (v := .slice none 0 0) (by omega) (by omega) (by omega) (by have hq := (by assumption : findN (X.take k) (c, r) = none); rw [hkj] at hq; exact hq) hbad
               have hE1233 := hE813.new (below_grown hb824)
               have hE1234 := hE1233.new hg834
               have hE1235 := hE1234.new hg1217
               refine d1 7 h1214 rfl rfl (op_call (args := #[subV u 0 j 4]) (R := fun res xw => ∃ L2 : List EntT, ∃ u : Value, res = u ∧ xw.ownsRow w1215.heap.size 47 4 u L2.length (L2.flatMap entE) ∧ EntsK (fun _ => False) w1215.heap.size xw L2 ∧ L2.map e0 = (X.take j).map e0 ∧ Below w1215.heap.size w1215 xw) rfl rfl rfl (by kernel_rfl) (by kernel_rfl) (Try.call52 _ _) (rcopy17_any (subV u 0 j 4) (X.take j) w1215 (sl_take (row_sl hr1229 entE_len) _ (by omega)) (entsK_got (EntsK.take hE1235 j)) (fun z hz => ((EntsK.take hE1235 j) z hz).len) (by rw [List.length_take]; omega)) (by rintro e x ⟨L2, u, rfl, hq1238, hq1239, hq1240, hb1241⟩; exact ⟨_, rfl, ⟨L2, u, rfl, hq1238, hq1239, hq1240, hb1241⟩⟩)) ?_ ?_; clear h1214
               ·
                rintro u1237 w1232 ⟨L21236, _, rfl, hq1238, hq1239, hq1240, hb1241⟩
                have hu1242 := row_under hr1229 (rfl : w1215.heap.size = _)
                have hz1243 := hb1241.size
                have hl1244 := sl_len (row_sl hq1238 entE_len)
                have hE1245 : EntsK S w0.heap.size w1232 L21236 := EntsK.low hq1239 (by omega)
                have hl1246 := e0_len hq1240; rw [List.length_take] at hl1246
                have hB1247 := fbU_call hB1228 hb1241
                have hr1248 := row_kept_new hr1229 (below_grown hb1241)
                have hk1249 := hk1230.below hb1241
                exact ⟨hB1247, hr1248, hk1249⟩
               rintro u1237 w1232 a1231 ⟨L21236, _, rfl, hq1238, hq1239, hq1240, hb1241⟩ h1231
               have hu1242 := row_under hr1229 (rfl : w1215.heap.size = _)
               have hz1243 := hb1241.size
               have hl1244 := sl_len (row_sl hq1238 entE_len)
               have hE1245 : EntsK S w0.heap.size w1232 L21236 := EntsK.low hq1239 (by omega)
               have hl1246 := e0_len hq1240; rw [List.length_take] at hl1246
               have hB1247 := fbU_call hB1228 hb1241
               have hr1248 := row_kept_new hr1229 (below_grown hb1241)
               have hk1249 := hk1230.below hb1241
               have hk1253 := hk1218.below hb1241
               have hr1252 := row_of_cells (enc := entE) (sz := 4) ([(EntT.mk c r v l ts)] : List EntT) hk1253 (Nat.le_refl _) rfl rfl (by unfold maxLen; simp)
               refine d1 10 h1231 rfl rfl (op_call (args := #[.slice (some ⟨N1216, 0, none⟩) 1 1]) (R := fun res xw => ∃ L2 : List EntT, ∃ u : Value, res = u ∧ xw.ownsRow w1232.heap.size 47 4 u L2.length (L2.flatMap entE) ∧ EntsK (fun _ => False) w1232.heap.size xw L2 ∧ L2.map e0 = ([(EntT.mk c r v l ts)] : List EntT).map e0 ∧ Below w1232.heap.size w1232 xw) rfl rfl rfl (by kernel_rfl) (by kernel_rfl) (Try.call52 _ _) (rcopy17_any (.slice (some ⟨N1216, 0, none⟩) 1 1) ([(EntT.mk c r v l ts)] : List EntT) w1232 (row_sl hr1252 entE_len) (fun z hz => by simp only [List.mem_singleton] at hz; subst hz; exact ⟨sl_butN hs hB1247 hvS, hen.1, hts.1, hts.2, hen.2.1, hen.2.2⟩) (fun z hz => by simp only [List.mem_singleton] at hz; subst hz; exact hlen) (by simp)) (by rintro e x ⟨L2, u, rfl, hq1256, hq1257, hq1258, hb1259⟩; exact ⟨_, rfl, ⟨L2, u, rfl, hq1256, hq1257, hq1258, hb1259⟩⟩)) ?_ ?_; clear h1231
               ·
                rintro u1255 w1251 ⟨L21254, _, rfl, hq1256, hq1257, hq1258, hb1259⟩
                have hu1260 := row_under hr1248 (rfl : w1232.heap.size = _)
                have hu1261 := row_under hq1238 (rfl : w1232.heap.size = _)
                have hu1262 := row_under hr1252 (rfl : w1232.heap.size = _)
                have hz1263 := hb1259.size
                have hl1264 := sl_len (row_sl hq1256 entE_len)
                have hE1265 : EntsK S w0.heap.size w1251 L21254 := EntsK.low hq1257 (by omega)
                have hl1266 : L21254.length = 1 := e0_len hq1258
                have hB1267 := fbU_call hB1247 hb1259
                have hr1268 := row_kept_new hr1248 (below_grown hb1259)
                have hk1269 := hk1249.below hb1259
                exact ⟨hB1267, hr1268, hk1269⟩
               rintro u1255 w1251 a1250 ⟨L21254, _, rfl, hq1256, hq1257, hq1258, hb1259⟩ h1250
               have hu1260 := row_under hr1248 (rfl : w1232.heap.size = _)
               have hu1261 := row_under hq1238 (rfl : w1232.heap.size = _)
               have hu1262 := row_under hr1252 (rfl : w1232.heap.size = _)
               have hz1263 := hb1259.size
               have hl1264 := sl_len (row_sl hq1256 entE_len)
               have hE1265 : EntsK S w0.heap.size w1251 L21254 := EntsK.low hq1257 (by omega)
               have hl1266 : L21254.length = 1 := e0_len hq1258
               have hB1267 := fbU_call hB1247 hb1259
               have hr1268 := row_kept_new hr1248 (below_grown hb1259)
               have hk1269 := hk1249.below hb1259
               have hr1276 := row_kept_new hq1238 (below_grown hb1259)
               refine d1 11 h1250 rfl rfl (op_appendSrc rfl w1215.heap.size 47 (z := .agg #[.int .i64 0, .int .i64 0, .slice none 0 0, .int .u64 0]) (size := 4) (bytes := 48) Try.underlying39 (by kernel_rfl) rfl rfl rfl hr1276 rfl (row_sl hq1256 entE_len) (fun y hy => ⟨entE_len y, entE_oneK (hE1265 y hy)⟩) (by first | omega | (simp only [List.length_nil, List.length_append, List.length_cons, List.length_take, List.length_drop]; omega)) (by first | omega | (simp only [List.length_nil, List.length_append, List.length_cons, List.length_take, List.length_drop]; omega)) (by omega)) ?_ ?_; clear h1250
               ·
                rintro v1272 w1271 ⟨hr1273, hg1274⟩
                have hr1273' : w1271.ownsRow w1215.heap.size 47 4 v1272 ((L21236 ++ L21254).length) ((L21236 ++ L21254).flatMap entE) := row_app hr1273; clear hr1273
                have hz1277 := hg1274.size
                have hk1278 := hk1121.kept hg1217 (by simp)
                have hk1279 := hk1278.below hb1241
                have hk1280 := hk1279.below hb1259
                have hB1281 := fbU_row hB1267 (InS.low hq1238 (by omega)) hg1274
                have hr1282 := row_kept_ap hr1268 hr1276 hu1242 hg1274
                have hk1283 := hk1269.kept hg1274 (row_ne_lt hr1276 (by omega))
                exact ⟨hB1281, hr1282, hk1283⟩
               rintro v1272 w1271 a1270 ⟨hr1273, hg1274⟩ h1270
               have hr1273' : w1271.ownsRow w1215.heap.size 47 4 v1272 ((L21236 ++ L21254).length) ((L21236 ++ L21254).flatMap entE) := row_app hr1273; clear hr1273
               have hz1277 := hg1274.size
               have hk1278 := hk1121.kept hg1217 (by simp)
               have hk1279 := hk1278.below hb1241
               have hk1280 := hk1279.below hb1259
               have hB1281 := fbU_row hB1267 (InS.low hq1238 (by omega)) hg1274
               have hr1282 := row_kept_ap hr1268 hr1276 hu1242 hg1274
               have hk1283 := hk1269.kept hg1274 (row_ne_lt hr1276 (by omega))
               refine dk0 12 (v := pt b 0) h1270 rfl rfl ⟨hB1281, hr1282, hk1283⟩ fun a1284 h1284 => ?_; clear h1270
               refine dk0 13 (v := pt b 0) h1284 rfl rfl ⟨hB1281, hr1282, hk1283⟩ fun a1285 h1285 => ?_; clear h1284
               have hk1291 := hk1280.kept hg1274 (own_neT hr1276 hk1280 (by decide))
               refine d1D 14 h1285 rfl rfl (op_store1 rfl rfl rfl (row_one hr1273') Try.sizeOf39 hk1291 rfl) ?_ ?_; clear h1285
               ·
                rintro _ w1287 ⟨hk1288, hz1289, hg1290⟩
                have hk1288' : Blk w1287 b 41 #[v1272] := hk1288; clear hk1288
                have hz1292 := hg1290.size
                have hB1293 := fbU_at hB1281 hg1290 (fun hlt => by rcases hO.sb with hq | hq; exact hq; omega)
                have hr1294 := row_kept_at hr1282 hg1290 (own_neT hr1282 hk1291 (by decide))
                have hk1295 := hk1283.kept hg1290 (by simp; omega)
                exact ⟨hB1293, hr1294, hk1295⟩
               rintro _ w1287 a1286 ⟨hk1288, hz1289, hg1290⟩ h1286
               have hk1288' : Blk w1287 b 41 #[v1272] := hk1288; clear hk1288
               have hz1292 := hg1290.size
               refine dr_done (by kernel_rfl) ?_
               refine co_then ?_
               refine co_seq ?_
               refine co_reg ?_
               refine pk0 (v := .int .i64 0) h1286 rfl fun a1293 h1293 => ?_; clear h1286
               refine pl_nil ?_
               refine co_then ?_
               refine wp_ret ?_
               refine co_ret1 h1293 rfl rfl ?_
               have hE1294 := hE1245.new (below_grown hb1259)
               have hE1295 := hE1294.row hr1276 (by decide) hg1274
               have hE1296 := hE1295.blk hk1291 (by decide) hg1290
               have hE1297 := hE1265.row hr1276 (by decide) hg1274
               have hE1298 := hE1297.blk hk1291 (by decide) hg1290
               have hr1299 := row_kept_at hr1273' hg1290 (own_neT hr1273' hk1291 (by decide))
               have hB1300 := fbU_at hB1281 hg1290 (fun hlt => by rcases hO.sb with hq | hq; exact hq; omega)
               have hT := setL_new (n := (j : Int)) hE (by first | exact nm_n (by assumption) (by assumption) | exact nm_o (by omega)) hq1240 hq1258
               exact ⟨_, _, ret_int hE.symm, ⟨hk1288', (row_lows hr1299 (Nat.zero_le _)), (EntsK.app hE1296 hE1298), hO.sb, (InS.low hr1299 (by omega)), (by rw [List.length_append]; omega)⟩, hT, hB1300⟩
             ·
              refine dr_op (i := 9) h1120 rfl rfl rfl rfl (op_new (v := fun N => .slice (some ⟨N, 0, none⟩) 1 1) (T := 47) (cs := #[.int .i64 c, .int .i64 r, v, .int .u64 ts]) (by kernel_rfl) (by kernel_rfl) (by kernel_rfl)) ?_ ?_; clear h1120
              ·
               rintro _ w1302 ⟨N1303, rfl, hN1306, hz1307, hk1305, hg1304⟩
               have ha1308 := row_fresh hr841 hN1306
               have hu1309 := row_under hr841 hN1306
               have hr1311 := row_kept_new hy812.row (below_grown hb824)
               have hr1312 := row_kept_new hr1311 hg834
               have ha1310 := row_fresh hr1312 hN1306
               have hu1313 := row_under hr1312 hN1306
               have hz1314 := hg1304.size
               have hB1315 := fbU_new hB840 hg1304
               have hr1316 := row_kept_new hr841 hg1304
               have hk1317 := hk842.kept hg1304 (by simp)
               exact ⟨hB1315, hr1316, hk1317⟩
              rintro _ w1302 a1301 ⟨N1303, rfl, hN1306, hz1307, hk1305, hg1304⟩ h1301
              have ha1308 := row_fresh hr841 hN1306
              have hu1309 := row_under hr841 hN1306
              have hr1311 := row_kept_new hy812.row (below_grown hb824)
              have hr1312 := row_kept_new hr1311 hg834
              have ha1310 := row_fresh hr1312 hN1306
              have hu1313 := row_under hr1312 hN1306
              have hz1314 := hg1304.size
              try dsimp only at h1301
              have hB1315 := fbU_new hB840 hg1304
              have hr1316 := row_kept_new hr841 hg1304
              have hk1317 := hk842.kept hg1304 (by simp)
              refine dr_many [4] (by kernel_rfl) (by simp) ⟨?_, trivial⟩
              ·
               have hk1318 := hk828.kept hg834 (by simp)
               have hk1319 := hk1318.kept hg1304 (by simp)
               refine dr_opVal (i := 4) (v := u) h1301 rfl rfl rfl rfl (by kernel_rfl) rfl (rn_load1 rfl rfl Try.isAgg39 (hk1319.cell rfl)) ⟨hB1315, hr1316, hk1317⟩ (fun a1320 h1320 => ?_); clear h1301
               refine dk 6 (v := subV u 0 j 4) h1320 rfl rfl ⟨hB1315, hr1316, hk1317⟩ (fun x hx => (rn_sliceTo rfl rfl rfl Try.underlying39 Try.sizeOf47 (row_sl hx.2.1 entE_len) (by omega) (by omega))) fun a1321 h1321 => ?_; clear h1320
               have hbad : badT (X.take ((j : Int) : Int).toNat) (EntT.mk c r (.slice none 0 0) l ts) = false := by first | exact hi232.trans hc241
               have hkj : k = j := by omega
               have hE := setE_f (i := (j : Int)) (v := .slice none 0 0) (by omega) (by omega) (by omega) (by have hq := (by assumption : findN (X.take k) (c, r) = none); rw [hkj] at hq; exact hq) hbad
               have hE1324 := hE813.new (below_grown hb824)
               have hE1325 := hE1324.new hg834
               have hE1326 := hE1325.new hg1304
               refine d1 7 h1321 rfl rfl (op_call (args := #[subV u 0 j 4]) (R := fun res xw => ∃ L2 : List EntT, ∃ u : Value, res = u ∧ xw.ownsRow w1302.heap.size 47 4 u L2.length (L2.flatMap entE) ∧ EntsK (fun _ => False) w1302.heap.size xw L2 ∧ L2.map e0 = (X.take j).map e0 ∧ Below w1302.heap.size w1302 xw) rfl rfl rfl (by kernel_rfl) (by kernel_rfl) (Try.call52 _ _) (rcopy17_any (subV u 0 j 4) (X.take j) w1302 (sl_take (row_sl hr1316 entE_len) _ (by omega)) (entsK_got (EntsK.take hE1326 j)) (fun z hz => ((EntsK.take hE1326 j) z hz).len) (by rw [List.length_take]; omega)) (by rintro e x ⟨L2, u, rfl, hq1329, hq1330, hq1331, hb1332⟩; exact ⟨_, rfl, ⟨L2, u, rfl, hq1329, hq1330, hq1331, hb1332⟩⟩)) ?_ ?_; clear h1321
               ·
                rintro u1328 w1323 ⟨L21327, _, rfl, hq1329, hq1330, hq1331, hb1332⟩
                have hu1333 := row_under hr1316 (rfl : w1302.heap.size = _)
                have hz1334 := hb1332.size
                have hl1335 := sl_len (row_sl hq1329 entE_len)
                have hE1336 : EntsK S w0.heap.size w1323 L21327 := EntsK.low hq1330 (by omega)
                have hl1337 := e0_len hq1331; rw [List.length_take] at hl1337
                have hB1338 := fbU_call hB1315 hb1332
                have hr1339 := row_kept_new hr1316 (below_grown hb1332)
                have hk1340 := hk1317.below hb1332
                exact ⟨hB1338, hr1339, hk1340⟩
               rintro u1328 w1323 a1322 ⟨L21327, _, rfl, hq1329, hq1330, hq1331, hb1332⟩ h1322
               have hu1333 := row_under hr1316 (rfl : w1302.heap.size = _)
               have hz1334 := hb1332.size
               have hl1335 := sl_len (row_sl hq1329 entE_len)
               have hE1336 : EntsK S w0.heap.size w1323 L21327 := EntsK.low hq1330 (by omega)
               have hl1337 := e0_len hq1331; rw [List.length_take] at hl1337
               have hB1338 := fbU_call hB1315 hb1332
               have hr1339 := row_kept_new hr1316 (below_grown hb1332)
               have hk1340 := hk1317.below hb1332
               have hk1344 := hk1305.below hb1332
               have hr1343 := row_of_cells (enc := entE) (sz := 4) ([(EntT.mk c r v l ts)] : List EntT) hk1344 (Nat.le_refl _) rfl rfl (by unfold maxLen; simp)
               refine d1 10 h1322 rfl rfl (op_call (args := #[.slice (some ⟨N1303, 0, none⟩) 1 1]) (R := fun res xw => ∃ L2 : List EntT, ∃ u : Value, res = u ∧ xw.ownsRow w1323.heap.size 47 4 u L2.length (L2.flatMap entE) ∧ EntsK (fun _ => False) w1323.heap.size xw L2 ∧ L2.map e0 = ([(EntT.mk c r v l ts)] : List EntT).map e0 ∧ Below w1323.heap.size w1323 xw) rfl rfl rfl (by kernel_rfl) (by kernel_rfl) (Try.call52 _ _) (rcopy17_any (.slice (some ⟨N1303, 0, none⟩) 1 1) ([(EntT.mk c r v l ts)] : List EntT) w1323 (row_sl hr1343 entE_len) (fun z hz => by simp only [List.mem_singleton] at hz; subst hz; exact ⟨sl_butN hs hB1338 hvS, hen.1, hts.1, hts.2, hen.2.1, hen.2.2⟩) (fun z hz => by simp only [List.mem_singleton] at hz; subst hz; exact hlen) (by simp)) (by rintro e x ⟨L2, u, rfl, hq1347, hq1348, hq1349, hb1350⟩; exact ⟨_, rfl, ⟨L2, u, rfl, hq1347, hq1348, hq1349, hb1350⟩⟩)) ?_ ?_; clear h1322
               ·
                rintro u1346 w1342 ⟨L21345, _, rfl, hq1347, hq1348, hq1349, hb1350⟩
                have hu1351 := row_under hr1339 (rfl : w1323.heap.size = _)
                have hu1352 := row_under hq1329 (rfl : w1323.heap.size = _)
                have hu1353 := row_under hr1343 (rfl : w1323.heap.size = _)
                have hz1354 := hb1350.size
                have hl1355 := sl_len (row_sl hq1347 entE_len)
                have hE1356 : EntsK S w0.heap.size w1342 L21345 := EntsK.low hq1348 (by omega)
                have hl1357 : L21345.length = 1 := e0_len hq1349
                have hB1358 := fbU_call hB1338 hb1350
                have hr1359 := row_kept_new hr1339 (below_grown hb1350)
                have hk1360 := hk1340.below hb1350
                exact ⟨hB1358, hr1359, hk1360⟩
               rintro u1346 w1342 a1341 ⟨L21345, _, rfl, hq1347, hq1348, hq1349, hb1350⟩ h1341
               have hu1351 := row_under hr1339 (rfl : w1323.heap.size = _)
               have hu1352 := row_under hq1329 (rfl : w1323.heap.size = _)
               have hu1353 := row_under hr1343 (rfl : w1323.heap.size = _)
               have hz1354 := hb1350.size
               have hl1355 := sl_len (row_sl hq1347 entE_len)
               have hE1356 : EntsK S w0.heap.size w1342 L21345 := EntsK.low hq1348 (by omega)
               have hl1357 : L21345.length = 1 := e0_len hq1349
               have hB1358 := fbU_call hB1338 hb1350
               have hr1359 := row_kept_new hr1339 (below_grown hb1350)
               have hk1360 := hk1340.below hb1350
               have hr1367 := row_kept_new hq1329 (below_grown hb1350)
               refine d1 11 h1341 rfl rfl (op_appendSrc rfl w1302.heap.size 47 (z := .agg #[.int .i64 0, .int .i64 0, .slice none 0 0, .int .u64 0]) (size := 4) (bytes := 48) Try.underlying39 (by kernel_rfl) rfl rfl rfl hr1367 rfl (row_sl hq1347 entE_len) (fun y hy => ⟨entE_len y, entE_oneK (hE1356 y hy)⟩) (by first | omega | (simp only [List.length_nil, List.length_append, List.length_cons, List.length_take, List.length_drop]; omega)) (by first | omega | (simp only [List.length_nil, List.length_append, List.length_cons, List.length_take, List.length_drop]; omega)) (by omega)) ?_ ?_; clear h1341
               ·
                rintro v1363 w1362 ⟨hr1364, hg1365⟩
                have hr1364' : w1362.ownsRow w1302.heap.size 47 4 v1363 ((L21327 ++ L21345).length) ((L21327 ++ L21345).flatMap entE) := row_app hr1364; clear hr1364
                have hz1368 := hg1365.size
                have hk1369 := hk1319.below hb1332
                have hk1370 := hk1369.below hb1350
                have hB1371 := fbU_row hB1358 (InS.low hq1329 (by omega)) hg1365
                have hr1372 := row_kept_ap hr1359 hr1367 hu1333 hg1365
                have hk1373 := hk1360.kept hg1365 (row_ne_lt hr1367 (by omega))
                exact ⟨hB1371, hr1372, hk1373⟩
               rintro v1363 w1362 a1361 ⟨hr1364, hg1365⟩ h1361
               have hr1364' : w1362.ownsRow w1302.heap.size 47 4 v1363 ((L21327 ++ L21345).length) ((L21327 ++ L21345).flatMap entE) := row_app hr1364; clear hr1364
               have hz1368 := hg1365.size
               have hk1369 := hk1319.below hb1332
               have hk1370 := hk1369.below hb1350
               have hB1371 := fbU_row hB1358 (InS.low hq1329 (by omega)) hg1365
               have hr1372 := row_kept_ap hr1359 hr1367 hu1333 hg1365
               have hk1373 := hk1360.kept hg1365 (row_ne_lt hr1367 (by omega))
               refine dk0 12 (v := pt b 0) h1361 rfl rfl ⟨hB1371, hr1372, hk1373⟩ fun a1374 h1374 => ?_; clear h1361
               refine dk0 13 (v := pt b 0) h1374 rfl rfl ⟨hB1371, hr1372, hk1373⟩ fun a1375 h1375 => ?_; clear h1374
               have hk1381 := hk1370.kept hg1365 (own_neT hr1367 hk1370 (by decide))
               refine d1D 14 h1375 rfl rfl (op_store1 rfl rfl rfl (row_one hr1364') Try.sizeOf39 hk1381 rfl) ?_ ?_; clear h1375
               ·
                rintro _ w1377 ⟨hk1378, hz1379, hg1380⟩
                have hk1378' : Blk w1377 b 41 #[v1363] := hk1378; clear hk1378
                have hz1382 := hg1380.size
                have hB1383 := fbU_at hB1371 hg1380 (fun hlt => by rcases hO.sb with hq | hq; exact hq; omega)
                have hr1384 := row_kept_at hr1372 hg1380 (own_neT hr1372 hk1381 (by decide))
                have hk1385 := hk1373.kept hg1380 (by simp; omega)
                exact ⟨hB1383, hr1384, hk1385⟩
               rintro _ w1377 a1376 ⟨hk1378, hz1379, hg1380⟩ h1376
               have hk1378' : Blk w1377 b 41 #[v1363] := hk1378; clear hk1378
               have hz1382 := hg1380.size
               refine dr_done (by kernel_rfl) ?_
               refine co_then ?_
               refine co_seq ?_
               refine co_reg ?_
               refine pk0 (v := .int .i64 0) h1376 rfl fun a1383 h1383 => ?_; clear h1376
               refine pl_nil ?_
               refine co_then ?_
               refine wp_ret ?_
               refine co_ret1 h1383 rfl rfl ?_
               have hE1384 := hE1336.new (below_grown hb1350)
               have hE1385 := hE1384.row hr1367 (by decide) hg1365
               have hE1386 := hE1385.blk hk1381 (by decide) hg1380
               have hE1387 := hE1356.row hr1367 (by decide) hg1365
               have hE1388 := hE1387.blk hk1381 (by decide) hg1380
               have hr1389 := row_kept_at hr1364' hg1380 (own_neT hr1364' hk1381 (by decide))
               have hB1390 := fbU_at hB1371 hg1380 (fun hlt => by rcases hO.sb with hq | hq; exact hq; omega)
               have hT := setL_new (n := (j : Int)) hE (by first | exact nm_n (by assumption) (by assumption) | exact nm_o (by omega)) hq1331 hq1349
               exact ⟨_, _, ret_int hE.symm, ⟨hk1378', (row_lows hr1389 (Nat.zero_le _)), (EntsK.app hE1386 hE1388), hO.sb, (InS.low hr1389 (by omega)), (by rw [List.length_append]; omega)⟩, hT, hB1390⟩
           ·
            rw [hc831] at h830
            have hp1391 : y811.client = c ∧ y811.req = r := by first | simpa using hc831 | simpa [and_assoc] using hc831
            clear hc831
            refine co_true h830 rfl ?_
            refine co_seq ?_
            refine co_reg ?_
            refine pk0 (v := pt b 0) h830 rfl fun a1392 h1392 => ?_; clear h830
            refine pk0 (v := pt b 0) h1392 rfl fun a1393 h1393 => ?_; clear h1392
            refine pk0 (v := pt b 0) h1393 rfl fun a1394 h1394 => ?_; clear h1393
            refine pk (v := u) h1394 rfl (rn_load1 rfl rfl Try.isAgg39 (hk828.cell rfl)) fun a1395 h1395 => ?_; clear h1394
            have hbad : badT (X.take ((j : Int) : Int).toNat) (EntT.mk c r (.slice none 0 0) l ts) = false := by first | exact hi232.trans hc241
            have hkj : k = j := by omega
            have hE := setE_f (i := (j : Int)) (v := .slice none 0 0) (by omega) (by omega) (by omega) (by have hq := (by assumption : findN (X.take k) (c, r) = none); rw [hkj] at hq; exact hq) hbad
            have hE1398 := hE813.new (below_grown hb824)
            refine pw h1395 rfl (op_call (args := #[u]) (R := fun res xw => ∃ L2 : List EntT, ∃ u : Value, res = u ∧ xw.ownsRow w823.heap.size 47 4 u L2.length (L2.flatMap entE) ∧ EntsK (fun _ => False) w823.heap.size xw L2 ∧ L2.map e0 = X.map e0 ∧ Below w823.heap.size w823 xw) rfl rfl rfl (by kernel_rfl) (by kernel_rfl) (Try.call52 _ _) (rcopy17_any u X w823 (row_sl hr827 entE_len) (entsK_got hE1398) (fun z hz => (hE1398 z hz).len) hO.len) (by rintro e x ⟨L2, u, rfl, hq1401, hq1402, hq1403, hb1404⟩; exact ⟨_, rfl, ⟨L2, u, rfl, hq1401, hq1402, hq1403, hb1404⟩⟩)) ?_; clear h1395
            rintro u1400 w1397 a1396 ⟨L21399, _, rfl, hq1401, hq1402, hq1403, hb1404⟩ h1396
            have hu1405 := row_under hr827 (rfl : w823.heap.size = _)
            have hz1406 := hb1404.size
            have hl1407 := sl_len (row_sl hq1401 entE_len)
            have hE1408 : EntsK S w0.heap.size w1397 L21399 := EntsK.low hq1402 (by omega)
            have hl1409 := e0_len hq1403
            refine pk0 (v := u1400) h1396 rfl fun a1410 h1410 => ?_; clear h1396
            refine pl_nil ?_
            refine co_then ?_
            refine co_seq ?_
            refine co_seq ?_
            refine co_reg ?_
            refine pk0 (v := .int .i64 ((j : Nat) : Int)) h1410 rfl fun a1411 h1411 => ?_; clear h1410
            refine pk (v := .int .i64 ((j + 1 : Nat) : Int)) h1411 rfl (rn_arith' rfl rfl rfl rfl rfl rfl (IntWalk.i64_in _ (by omega)) (by omega)) fun a1412 h1412 => ?_; clear h1411
            refine pk0 (v := .int .i64 ((j + 1 : Nat) : Int)) h1412 rfl fun a1413 h1413 => ?_; clear h1412
            refine pl_nil ?_
            refine co_then ?_
            refine wp_block ?_
            have h1414 : Slots 145 [(0, pt b 0), (1, .int .i64 ((j : Nat) : Int)), (5, pt N33 0), (9, u1400), (10, .int .i64 ((j + 1 : Nat) : Int))] _ := h1413.sub ⟨rfl, rfl, rfl, rfl, rfl, trivial⟩; clear h1413
            refine co_loop (fun mm a x => ∃ (q : Nat) (Mk : List EntT), Slots 145 [(0, pt b 0), (1, .int .i64 ((j : Nat) : Int)), (5, pt N33 0), (9, u1400), (10, .int .i64 ((q : Nat) : Int))] a ∧ mm = X.length - q ∧ (j < q) ∧ (q ≤ X.length) ∧ (Mk.map e0 = (clL X j q).map e0) ∧ (q = j + 1 ∨ ¬ y811.ts = ts) ∧ x.ownsRow w823.heap.size 47 4 u1400 Mk.length (Mk.flatMap entE) ∧ x.ownsRow 0 47 4 u X.length (X.flatMap entE) ∧ EntsK S w0.heap.size x Mk ∧ But (S) w0 x ∧ Blk x b 41 #[u] ∧ Blk x N33 47 #[.int .i64 c, .int .i64 r, v, .int .u64 ts]) (X.length - (j + 1)) ?_ ?_
            have hr1415 := row_kept_new hr827 (below_grown hb1404)
            have hB1416 := fbU_call hB826 hb1404
            have hk1417 := hk828.below hb1404
            have hk1418 := hk829.below hb1404
            · exact ⟨(j + 1), L21399, h1414.sub ⟨rfl, rfl, rfl, rfl, rfl, trivial⟩, rfl, by omega, by omega, by first | exact hck | (rw [clL_0]; assumption), by omega, hq1401, hr1415, hE1408, hB1416, hk1417, hk1418⟩
            · rintro k1419 a1420 w1421 ⟨q, Mk, h1420, rfl, hi1422, hi1423, hi1424, hi1425, hf1426, hf1427, hf1428, hB1429, hk1430, hk1431⟩
              have hz1432 := hB1429.size
              have hl1433 := hk1430.lt
              have hl1434 := hk1431.lt
              have hMl : Mk.length = X.length := by have := e0_len (by assumption : Mk.map e0 = (clL X j q).map e0); rw [clL_len] at this; exact this
              refine co_seq ?_
              refine co_seq ?_
              refine dr_eq (by kernel_rfl) (fun w1435 hg1436 => ?_)
              have hz1437 := hg1436.size
              refine dk0 0 (v := .int .i64 ((q : Nat) : Int)) h1420 rfl rfl rfl fun a1438 h1438 => ?_; clear h1420
              refine dk0 1 (v := u1400) h1438 rfl rfl rfl fun a1439 h1439 => ?_; clear h1438
              have hr1440 := row_kept_new hf1426 hg1436
              refine dk 2 (v := .int .i64 ((Mk.length : Nat) : Int)) h1439 rfl rfl rfl (fun x hx => by subst hx; exact (rn_lenOwn rfl rfl Try.underlying39 hr1440)) fun a1441 h1441 => ?_; clear h1439
              refine dk0 3 (v := .bool (decide (((q : Nat) : Int) < ((Mk.length : Nat) : Int)))) h1441 rfl rfl rfl fun a1442 h1442 => ?_; clear h1441
              refine dk0 4 (v := .bool (decide (((q : Nat) : Int) < ((Mk.length : Nat) : Int)))) h1442 rfl rfl rfl fun a1443 h1443 => ?_; clear h1442
              have hB1445 := fbU_new hB1429 hg1436
              cases hc1444 : (decide (((q : Nat) : Int) < ((Mk.length : Nat) : Int)))
              ·
               rw [hc1444] at h1443
               have hp1446 : ¬ (((q : Nat) : Int) < ((Mk.length : Nat) : Int)) := of_decide_eq_false hc1444
               clear hc1444
               refine dsk 5 h1443 rfl rfl rfl fun a1447 h1447 => ?_; clear h1443
               refine dsk 6 h1447 rfl rfl rfl fun a1448 h1448 => ?_; clear h1447
               refine dsk 7 h1448 rfl rfl rfl fun a1449 h1449 => ?_; clear h1448
               refine dsk 8 h1449 rfl rfl rfl fun a1450 h1450 => ?_; clear h1449
               refine dsk 9 h1450 rfl rfl rfl fun a1451 h1451 => ?_; clear h1450
               refine dsk 10 h1451 rfl rfl rfl fun a1452 h1452 => ?_; clear h1451
               refine dsk 11 h1452 rfl rfl rfl fun a1453 h1453 => ?_; clear h1452
               refine dsk 12 h1453 rfl rfl rfl fun a1454 h1454 => ?_; clear h1453
               refine dk0 13 (v := .bool false) h1454 rfl rfl rfl fun a1455 h1455 => ?_; clear h1454
               refine dr_done (by kernel_rfl) ?_
               refine co_then ?_
               refine co_false h1455 rfl ?_
               refine wp_exit ?_
               refine co_thenX ?_
               refine co_thenX ?_
               refine co_blockX ?_
               refine co_then ?_
               refine co_seq ?_
               refine co_reg ?_
               refine pk0 (v := u1400) h1455 rfl fun a1456 h1456 => ?_; clear h1455
               refine pk0 (v := .int .i64 ((j : Nat) : Int)) h1456 rfl fun a1457 h1457 => ?_; clear h1456
               refine pk0 (v := pt N33 3) h1457 rfl fun a1458 h1458 => ?_; clear h1457
               have hk1459 := hk1431.kept hg1436 (by simp)
               refine pk (v := .int .u64 ts) h1458 rfl (rn_load1 rfl rfl Try.isAgg45 (hk1459.cell rfl)) fun a1460 h1460 => ?_; clear h1458
               have hE1463 := hf1428.new hg1436
               obtain ⟨y1461, hy1461⟩ : ∃ z, Mk[j]? = some z := ⟨_, List.getElem?_eq_getElem (by first | omega | (simp; done) | (simp; omega))⟩
               have oky1461 := (fun (z : EntT) (_ : z ∈ Mk) => trivial) _ (List.mem_of_getElem? hy1461)
               have hy1462 := hE1463.at hy1461
               have hq1464 := hy1462.ts0; have hq1465 := hy1462.ts1; have hq1466 := hy1462.len; have hq1467 := wf_i64 hy1462.cl; have hq1468 := wf_i64 hy1462.rq
               have ht1469 := clL_ts (by assumption : Mk.map e0 = (clL X j q).map e0) hy1461 hy811
               refine pk (v := pt (blkOf u1400) (offOf u1400 + j * 4)) h1460 rfl (rn_index rfl rfl rfl Try.underlying39 Try.sizeOf47 (row_sl hr1440 entE_len) (by omega) (by first | omega | (simp; done) | (simp; omega))) fun a1470 h1470 => ?_; clear h1460
               refine pk0 (v := pt (blkOf u1400) (offOf u1400 + j * 4 + 3)) h1470 rfl fun a1471 h1471 => ?_; clear h1470
               refine pwD h1471 rfl (op_storeRow (c := j * 4 + 3) rfl rfl rfl rfl Try.sizeOf45 hr1440 (flat_lt entE_len (by first | omega | (simp; omega)) (by omega)) (by first | rfl | omega)) ?_; clear h1471
               rintro _ w1473 a1472 ⟨hr1474, hz1475, hg1476⟩ h1472
               have hr1474' := row_set (y' := (EntT.mk y1461.client y1461.req (y1461.ops) y1461.opl ts)) hr1474 entE_len hy1461 (by omega) rfl; clear hr1474
               have hz1477 := hg1476.size
               have hk1478 := hk1430.kept hg1436 (by simp)
               have hE1480 := hE1463.row hr1440 (by decide) hg1476
               have hE1479 := EntsK.set (i := j) hE1480 (EntK.ts (t := ts) (EntsK.at hE1480 hy1461) (by omega))
               refine pl_nil ?_
               refine co_then ?_
               refine co_seq ?_
               refine co_reg ?_
               refine pk0 (v := pt b 0) h1472 rfl fun a1481 h1481 => ?_; clear h1472
               refine pk0 (v := u1400) h1481 rfl fun a1482 h1482 => ?_; clear h1481
               refine pk0 (v := pt b 0) h1482 rfl fun a1483 h1483 => ?_; clear h1482
               refine pk0 (v := pt b 0) h1483 rfl fun a1484 h1484 => ?_; clear h1483
               have hk1490 := hk1478.kept hg1476 (own_neT hr1440 hk1478 (by decide))
               refine pwD h1484 rfl (op_store1 rfl rfl rfl (row_one hr1474') Try.sizeOf39 hk1490 rfl) ?_; clear h1484
               rintro _ w1486 a1485 ⟨hk1487, hz1488, hg1489⟩ h1485
               have hk1487' : Blk w1486 b 41 #[u1400] := hk1487; clear hk1487
               have hz1491 := hg1489.size
               refine pl_nil ?_
               refine co_then ?_
               refine co_seq ?_
               refine co_reg ?_
               refine pk0 (v := .int .i64 0) h1485 rfl fun a1492 h1492 => ?_; clear h1485
               refine pl_nil ?_
               refine co_then ?_
               refine wp_ret ?_
               refine co_thenR ?_
               refine co_ret1 h1492 rfl rfl ?_
               have hr1493 := row_kept_at hr1474' hg1489 (own_neT hr1474' hk1490 (by decide))
               have hE1494 := hE1479.blk hk1490 (by decide) hg1489
               have hB1495 := fbU_row hB1445 (InS.low hf1426 (by omega)) hg1476
               have hB1496 := fbU_at hB1495 hg1489 (fun hlt => by rcases hO.sb with hq | hq; exact hq; omega)
               have hX' := clL_end (ts := ts) (by assumption : Mk.map e0 = (clL X j q).map e0) hy1461 hy811 (by omega) (by omega) (by omega)
               have hT := setL_tw (ts := ts) (l := l) (n := (j : Int)) hE (nm_y (c := c) (r := r) hy811 (by assumption))
               exact ⟨_, _, ret_int hE.symm, ⟨hk1487', (row_lows hr1493 (Nat.zero_le _)), hE1494, hO.sb, (InS.low hf1426 (by omega)), (by rw [List.length_set]; have := hO.len; omega)⟩, by rw [hT]; exact hX', hB1496⟩
              ·
               rw [hc1444] at h1443
               have hp1497 : ((q : Nat) : Int) < ((Mk.length : Nat) : Int) := of_decide_eq_true hc1444
               clear hc1444
               refine dk0 5 (v := u1400) h1443 rfl rfl rfl fun a1498 h1498 => ?_; clear h1443
               refine dk0 6 (v := .int .i64 ((j : Nat) : Int)) h1498 rfl rfl rfl fun a1499 h1499 => ?_; clear h1498
               have hE1502 := hf1428.new hg1436
               obtain ⟨y1500, hy1500⟩ : ∃ z, Mk[j]? = some z := ⟨_, List.getElem?_eq_getElem (by first | omega | (simp; done) | (simp; omega))⟩
               have oky1500 := (fun (z : EntT) (_ : z ∈ Mk) => trivial) _ (List.mem_of_getElem? hy1500)
               have hy1501 := hE1502.at hy1500
               have hq1503 := hy1501.ts0; have hq1504 := hy1501.ts1; have hq1505 := hy1501.len; have hq1506 := wf_i64 hy1501.cl; have hq1507 := wf_i64 hy1501.rq
               have ht1508 := clL_ts (by assumption : Mk.map e0 = (clL X j q).map e0) hy1500 hy811
               refine dk 7 (v := pt (blkOf u1400) (offOf u1400 + j * 4)) h1499 rfl rfl rfl (fun x hx => by subst hx; exact (rn_index rfl rfl rfl Try.underlying39 Try.sizeOf47 (row_sl hr1440 entE_len) (by omega) (by first | omega | (simp; done) | (simp; omega)))) fun a1509 h1509 => ?_; clear h1499
               refine dk0 8 (v := pt (blkOf u1400) (offOf u1400 + j * 4 + 3)) h1509 rfl rfl rfl fun a1510 h1510 => ?_; clear h1509
               refine dk 9 (v := .int .u64 y1500.ts) h1510 rfl rfl rfl (fun x hx => by subst hx; exact (rn_load1 rfl rfl Try.isAgg45 ((sl_at (row_sl hr1440 entE_len) hy1500) 3 _ rfl))) fun a1511 h1511 => ?_; clear h1510
               refine dk0 10 (v := pt N33 3) h1511 rfl rfl rfl fun a1512 h1512 => ?_; clear h1511
               have hk1513 := hk1431.kept hg1436 (by simp)
               refine dk 11 (v := .int .u64 ts) h1512 rfl rfl rfl (fun x hx => by subst hx; exact (rn_load1 rfl rfl Try.isAgg45 (hk1513.cell rfl))) fun a1514 h1514 => ?_; clear h1512
               refine dk0 12 (v := .bool (y1500.ts != ts)) h1514 rfl rfl rfl fun a1515 h1515 => ?_; clear h1514
               refine dk0 13 (v := .bool (y1500.ts != ts)) h1515 rfl rfl rfl fun a1516 h1516 => ?_; clear h1515
               refine dr_done (by kernel_rfl) ?_
               refine co_then ?_
               cases hc1517 : (y1500.ts != ts)
               ·
                rw [hc1517] at h1516
                have hp1518 : ¬ (y1500.ts ≠ ts) := by first | simpa using hc1517 | simpa [and_assoc] using hc1517
                clear hc1517
                refine co_false h1516 rfl ?_
                refine wp_exit ?_
                refine co_thenX ?_
                refine co_thenX ?_
                refine co_blockX ?_
                refine co_then ?_
                refine co_seq ?_
                refine co_reg ?_
                refine pk0 (v := u1400) h1516 rfl fun a1519 h1519 => ?_; clear h1516
                refine pk0 (v := .int .i64 ((j : Nat) : Int)) h1519 rfl fun a1520 h1520 => ?_; clear h1519
                refine pk0 (v := pt N33 3) h1520 rfl fun a1521 h1521 => ?_; clear h1520
                refine pk (v := .int .u64 ts) h1521 rfl (rn_load1 rfl rfl Try.isAgg45 (hk1513.cell rfl)) fun a1522 h1522 => ?_; clear h1521
                refine pk (v := pt (blkOf u1400) (offOf u1400 + j * 4)) h1522 rfl (rn_index rfl rfl rfl Try.underlying39 Try.sizeOf47 (row_sl hr1440 entE_len) (by omega) (by first | omega | (simp; done) | (simp; omega))) fun a1523 h1523 => ?_; clear h1522
                refine pk0 (v := pt (blkOf u1400) (offOf u1400 + j * 4 + 3)) h1523 rfl fun a1524 h1524 => ?_; clear h1523
                refine pwD h1524 rfl (op_storeRow (c := j * 4 + 3) rfl rfl rfl rfl Try.sizeOf45 hr1440 (flat_lt entE_len (by first | omega | (simp; omega)) (by omega)) (by first | rfl | omega)) ?_; clear h1524
                rintro _ w1526 a1525 ⟨hr1527, hz1528, hg1529⟩ h1525
                have hr1527' := row_set (y' := (EntT.mk y1500.client y1500.req (y1500.ops) y1500.opl ts)) hr1527 entE_len hy1500 (by omega) rfl; clear hr1527
                have hz1530 := hg1529.size
                have hk1531 := hk1430.kept hg1436 (by simp)
                have hE1533 := hE1502.row hr1440 (by decide) hg1529
                have hE1532 := EntsK.set (i := j) hE1533 (EntK.ts (t := ts) (EntsK.at hE1533 hy1500) (by omega))
                refine pl_nil ?_
                refine co_then ?_
                refine co_seq ?_
                refine co_reg ?_
                refine pk0 (v := pt b 0) h1525 rfl fun a1534 h1534 => ?_; clear h1525
                refine pk0 (v := u1400) h1534 rfl fun a1535 h1535 => ?_; clear h1534
                refine pk0 (v := pt b 0) h1535 rfl fun a1536 h1536 => ?_; clear h1535
                refine pk0 (v := pt b 0) h1536 rfl fun a1537 h1537 => ?_; clear h1536
                have hk1543 := hk1531.kept hg1529 (own_neT hr1440 hk1531 (by decide))
                refine pwD h1537 rfl (op_store1 rfl rfl rfl (row_one hr1527') Try.sizeOf39 hk1543 rfl) ?_; clear h1537
                rintro _ w1539 a1538 ⟨hk1540, hz1541, hg1542⟩ h1538
                have hk1540' : Blk w1539 b 41 #[u1400] := hk1540; clear hk1540
                have hz1544 := hg1542.size
                refine pl_nil ?_
                refine co_then ?_
                refine co_seq ?_
                refine co_reg ?_
                refine pk0 (v := .int .i64 0) h1538 rfl fun a1545 h1545 => ?_; clear h1538
                refine pl_nil ?_
                refine co_then ?_
                refine wp_ret ?_
                refine co_thenR ?_
                refine co_ret1 h1545 rfl rfl ?_
                have hr1546 := row_kept_at hr1527' hg1542 (own_neT hr1527' hk1543 (by decide))
                have hE1547 := hE1532.blk hk1543 (by decide) hg1542
                have hB1548 := fbU_row hB1445 (InS.low hf1426 (by omega)) hg1529
                have hB1549 := fbU_at hB1548 hg1542 (fun hlt => by rcases hO.sb with hq | hq; exact hq; omega)
                have hX' := clL_end (ts := ts) (by assumption : Mk.map e0 = (clL X j q).map e0) hy1500 hy811 (by omega) (by omega) (by omega)
                have hT := setL_tw (ts := ts) (l := l) (n := (j : Int)) hE (nm_y (c := c) (r := r) hy811 (by assumption))
                exact ⟨_, _, ret_int hE.symm, ⟨hk1540', (row_lows hr1546 (Nat.zero_le _)), hE1547, hO.sb, (InS.low hf1426 (by omega)), (by rw [List.length_set]; have := hO.len; omega)⟩, by rw [hT]; exact hX', hB1549⟩
               ·
                rw [hc1517] at h1516
                have hp1550 : y1500.ts ≠ ts := by first | simpa using hc1517 | simpa [and_assoc] using hc1517
                clear hc1517
                refine co_true h1516 rfl ?_
                refine wp_skip ?_
                refine co_then ?_
                refine co_seq ?_
                refine wp_block ?_
                refine co_reg ?_
                refine pk0 (v := u1400) h1516 rfl fun a1551 h1551 => ?_; clear h1516
                refine pk0 (v := .int .i64 ((q : Nat) : Int)) h1551 rfl fun a1552 h1552 => ?_; clear h1551
                obtain ⟨y1553, hy1553⟩ : ∃ z, Mk[q]? = some z := ⟨_, List.getElem?_eq_getElem (by first | omega | (simp; done) | (simp; omega))⟩
                have oky1553 := (fun (z : EntT) (_ : z ∈ Mk) => trivial) _ (List.mem_of_getElem? hy1553)
                have hy1554 := hE1502.at hy1553
                have hq1555 := hy1554.ts0; have hq1556 := hy1554.ts1; have hq1557 := hy1554.len; have hq1558 := wf_i64 hy1554.cl; have hq1559 := wf_i64 hy1554.rq
                refine pk (v := pt (blkOf u1400) (offOf u1400 + q * 4)) h1552 rfl (rn_index rfl rfl rfl Try.underlying39 Try.sizeOf47 (row_sl hr1440 entE_len) (by omega) (by first | omega | (simp; done) | (simp; omega))) fun a1560 h1560 => ?_; clear h1552
                refine pk0 (v := pt (blkOf u1400) (offOf u1400 + q * 4 + 3)) h1560 rfl fun a1561 h1561 => ?_; clear h1560
                refine pwD h1561 rfl (op_storeRow (c := q * 4 + 3) rfl rfl rfl rfl Try.sizeOf45 hr1440 (flat_lt entE_len (by first | omega | (simp; omega)) (by omega)) (by first | rfl | omega)) ?_; clear h1561
                rintro _ w1563 a1562 ⟨hr1564, hz1565, hg1566⟩ h1562
                have hr1564' := row_set (y' := (EntT.mk y1553.client y1553.req (y1553.ops) y1553.opl 0)) hr1564 entE_len hy1553 (by omega) rfl; clear hr1564
                have hz1567 := hg1566.size
                have hk1568 := hk1430.kept hg1436 (by simp)
                have hE1570 := hE1502.row hr1440 (by decide) hg1566
                have hE1569 := EntsK.set (i := q) hE1570 (EntK.ts (t := 0) (EntsK.at hE1570 hy1553) (by omega))
                refine pl_nil ?_
                refine co_blockN ?_
                refine co_then ?_
                refine co_reg ?_
                refine pk0 (v := .int .i64 ((q : Nat) : Int)) h1562 rfl fun a1571 h1571 => ?_; clear h1562
                refine pk (v := .int .i64 ((q + 1 : Nat) : Int)) h1571 rfl (rn_arith' rfl rfl rfl rfl rfl rfl (IntWalk.i64_in _ (by omega)) (by omega)) fun a1572 h1572 => ?_; clear h1571
                refine pk0 (v := .int .i64 ((q + 1 : Nat) : Int)) h1572 rfl fun a1573 h1573 => ?_; clear h1572
                refine pl_nil ?_
                refine co_then ?_
                refine ⟨(X.length - (q + 1)), by omega, ?_⟩
                have hck := clL_step (by assumption : Mk.map e0 = (clL X j q).map e0) hy1553 (by omega)
                have hr1574 := row_kept_new hf1427 hg1436
                have hr1575 := row_kept_ap hr1574 hr1440 hu1405 hg1566
                have hB1576 := fbU_row hB1445 (InS.low hf1426 (by omega)) hg1566
                have hk1577 := hk1568.kept hg1566 (own_neT hr1440 hk1568 (by decide))
                have hk1578 := hk1513.kept hg1566 (row_ne_lt hr1440 (by omega))
                exact ⟨q + 1, (Mk.set q (EntT.mk y1553.client y1553.req (y1553.ops) y1553.opl 0)), h1573.sub ⟨rfl, rfl, rfl, rfl, rfl, trivial⟩, rfl, by omega, by omega, by first | exact hck | (rw [clL_0]; assumption), by omega, hr1564', hr1575, hE1569, hB1576, hk1577, hk1578⟩
         ·
          rw [hc241] at h230
          refine co_true h230 rfl ?_
          refine co_seq ?_
          refine co_reg ?_
          refine pk0 (v := .int .i64 18) h230 rfl fun a1579 h1579 => ?_; clear h230
          refine pl_nil ?_
          refine co_then ?_
          refine wp_ret ?_
          refine co_thenR ?_
          refine co_ret1 h1579 rfl rfl ?_
          have hE : setE X (j : Int) c r l ts = 18 := setE_e (v := .slice none 0 0) (by omega) (by omega) (by omega) (by have hq := (by assumption : findN (X.take k) (c, r) = none); rw [show k = j by omega] at hq; exact hq) (by first | exact hi232.trans hc241)
          exact ⟨_, _, ret_int hE.symm, ⟨hf235, hf233, hf234, hO.sb, hO.su, hO.len⟩, by rw [setL_no (by rw [hE]; omega)], hB237⟩
        ·
         rw [hc97] at h96
         have hp1580 : ((k : Nat) : Int) < ((j : Nat) : Int) := of_decide_eq_true hc97
         clear hc97
         refine co_true h96 rfl ?_
         refine wp_skip ?_
         refine co_then ?_
         refine co_seq ?_
         refine wp_block ?_
         refine co_seq ?_
         refine dr_gen (fun x => But (S) w0 x ∧ Blk x b 41 #[u] ∧ Blk x N33 47 #[.int .i64 c, .int .i64 r, v, .int .u64 ts] ∧ x.ownsRow 0 47 4 u X.length (X.flatMap entE)) (by kernel_rfl) (fun w1581 hg1582 => ?_) (fun w1581 hg1582 => ?_)
         ·
          have hz1583 := hg1582.size
          have hB1584 := fbU_new hB88 hg1582
          have hk1585 := hk89.kept hg1582 (by simp)
          have hk1586 := hk90.kept hg1582 (by simp)
          have hr1587 := row_kept_new hf86 hg1582
          exact ⟨hB1584, hk1585, hk1586, hr1587⟩
         have hz1588 := hg1582.size
         have hB1589 := fbU_new hB88 hg1582
         have hk1590 := hk89.kept hg1582 (by simp)
         have hk1591 := hk90.kept hg1582 (by simp)
         have hr1592 := row_kept_new hf86 hg1582
         refine dk0 0 (v := pt b 0) h96 rfl rfl ⟨hB1589, hk1590, hk1591, hr1592⟩ fun a1593 h1593 => ?_; clear h96
         refine dk0 1 (v := pt b 0) h1593 rfl rfl ⟨hB1589, hk1590, hk1591, hr1592⟩ fun a1594 h1594 => ?_; clear h1593
         refine dk0 2 (v := pt b 0) h1594 rfl rfl ⟨hB1589, hk1590, hk1591, hr1592⟩ fun a1595 h1595 => ?_; clear h1594
         refine dk 3 (v := u) h1595 rfl rfl ⟨hB1589, hk1590, hk1591, hr1592⟩ (fun x hx => (rn_load1 rfl rfl Try.isAgg39 (hx.2.1.cell rfl))) fun a1596 h1596 => ?_; clear h1595
         refine dk0 4 (v := .int .i64 ((k : Nat) : Int)) h1596 rfl rfl ⟨hB1589, hk1590, hk1591, hr1592⟩ fun a1597 h1597 => ?_; clear h1596
         have hE1600 := hf87.new hg1582
         obtain ⟨y1598, hy1598⟩ : ∃ z, X[k]? = some z := ⟨_, List.getElem?_eq_getElem (by first | omega | (simp; done) | (simp; omega))⟩
         have oky1598 := (fun (z : EntT) (_ : z ∈ X) => trivial) _ (List.mem_of_getElem? hy1598)
         have hy1599 := hE1600.at hy1598
         have hq1601 := hy1599.ts0; have hq1602 := hy1599.ts1; have hq1603 := hy1599.len; have hq1604 := wf_i64 hy1599.cl; have hq1605 := wf_i64 hy1599.rq
         refine dk 5 (v := pt (blkOf u) (offOf u + k * 4)) h1597 rfl rfl ⟨hB1589, hk1590, hk1591, hr1592⟩ (fun x hx => (rn_index rfl rfl rfl Try.underlying39 Try.sizeOf47 (row_sl hx.2.2.2 entE_len) (by omega) (by first | omega | (simp; done) | (simp; omega)))) fun a1606 h1606 => ?_; clear h1597
         refine dk 6 (v := .agg #[.int .i64 y1598.client, .int .i64 y1598.req, y1598.ops, .int .u64 y1598.ts]) h1606 rfl rfl ⟨hB1589, hk1590, hk1591, hr1592⟩ (fun x hx => (rn_loadN rfl rfl Try.underlying47 rfl (by kernel_rfl) (sl_at (row_sl hx.2.2.2 entE_len) hy1598))) fun a1607 h1607 => ?_; clear h1606
         refine dk 7 (v := .agg #[.int .i64 c, .int .i64 r, v, .int .u64 ts]) h1607 rfl rfl ⟨hB1589, hk1590, hk1591, hr1592⟩ (fun x hx => (rn_loadN rfl rfl Try.underlying47 rfl (by kernel_rfl) hx.2.2.1.all)) fun a1608 h1608 => ?_; clear h1607
         refine d1 8 h1608 rfl rfl (op_call (args := #[.agg #[.int .i64 y1598.client, .int .i64 y1598.req, y1598.ops, .int .u64 y1598.ts], .agg #[.int .i64 c, .int .i64 r, v, .int .u64 ts]]) (R := fun res xw => res = .bool ((y1598.client == (c : Int)) && (y1598.req == (r : Int))) ∧ Below w1581.heap.size w1581 xw) rfl rfl rfl (by kernel_rfl) (by kernel_rfl) (Try.call36 _ _) (ritemTwins_any y1598.client y1598.req y1598.ops y1598.ts c r v ts w1581 ) (by rintro e x ⟨rfl, hb1611⟩; exact ⟨_, rfl, ⟨rfl, hb1611⟩⟩)) ?_ ?_; clear h1608
         ·
          rintro _ w1610 ⟨rfl, hb1611⟩
          have hz1612 := hb1611.size
          have hB1613 := fbU_call hB1589 hb1611
          have hk1614 := hk1590.below hb1611
          have hk1615 := hk1591.below hb1611
          have hr1616 := row_kept_new hr1592 (below_grown hb1611)
          exact ⟨hB1613, hk1614, hk1615, hr1616⟩
         rintro _ w1610 a1609 ⟨rfl, hb1611⟩ h1609
         have hz1612 := hb1611.size
         refine dr_done (by kernel_rfl) ?_
         refine co_then ?_
         have hB1614 := fbU_call hB1589 hb1611
         cases hc1613 : (((y1598.client == (c : Int)) && (y1598.req == (r : Int))))
         ·
          rw [hc1613] at h1609
          have hp1615 : ¬ (y1598.client = c ∧ y1598.req = r) := by first | simpa using hc1613 | simpa [and_assoc] using hc1613
          clear hc1613
          refine co_false h1609 rfl ?_
          refine wp_skip ?_
          refine co_blockN ?_
          refine co_then ?_
          refine co_reg ?_
          refine pk0 (v := .int .i64 ((k : Nat) : Int)) h1609 rfl fun a1616 h1616 => ?_; clear h1609
          refine pk (v := .int .i64 ((k + 1 : Nat) : Int)) h1616 rfl (rn_arith' rfl rfl rfl rfl rfl rfl (IntWalk.i64_in _ (by omega)) (by omega)) fun a1617 h1617 => ?_; clear h1616
          refine pk0 (v := .int .i64 ((k + 1 : Nat) : Int)) h1617 rfl fun a1618 h1618 => ?_; clear h1617
          refine pl_nil ?_
          refine co_then ?_
          refine ⟨(j - (k + 1)), by omega, ?_⟩
          have hfn' := findN_next (by assumption : findN (X.take k) (c, r) = none) hy1598 (nmE_n (by assumption))
          have hr1619 := row_kept_new hr1592 (below_grown hb1611)
          have hE1620 := hE1600.new (below_grown hb1611)
          have hk1621 := hk1590.below hb1611
          have hk1622 := hk1591.below hb1611
          exact ⟨k + 1, h1618.sub ⟨rfl, rfl, rfl, rfl, trivial⟩, rfl, by omega, by first | exact findN_nil _ | exact hfn', hr1619, hE1620, hB1614, hk1621, hk1622⟩
         ·
          rw [hc1613] at h1609
          have hp1623 : y1598.client = c ∧ y1598.req = r := by first | simpa using hc1613 | simpa [and_assoc] using hc1613
          clear hc1613
          refine co_true h1609 rfl ?_
          refine co_seq ?_
          refine co_reg ?_
          refine pk0 (v := .int .i64 18) h1609 rfl fun a1624 h1624 => ?_; clear h1609
          refine pl_nil ?_
          refine co_then ?_
          refine wp_ret ?_
          refine co_blockR ?_
          refine co_thenR ?_
          refine co_thenR ?_
          refine co_blockR ?_
          refine co_thenR ?_
          refine co_ret1 h1624 rfl rfl ?_
          have hr1625 := row_kept_new hr1592 (below_grown hb1611)
          have hE1626 := hE1600.new (below_grown hb1611)
          have hk1627 := hk1590.below hb1611
          have hE : setE X (j : Int) c r l ts = 18 := setE_h (by omega) (by omega) (by omega) (findN_hit (i := ((j : Int) : Int).toNat) hy1598 (nmE_y (by assumption)) (by omega))
          exact ⟨_, _, ret_int hE.symm, ⟨hk1627, hr1625, hE1626, hO.sb, hO.su, hO.len⟩, by rw [setL_no (by rw [hE]; omega)], hB1614⟩
     ·
      rw [hc74] at h73
      have hp1628 : ((j : Nat) : Int) ≥ 100 := of_decide_eq_true hc74
      clear hc74
      refine co_true h73 rfl ?_
      refine co_seq ?_
      refine co_reg ?_
      refine pk0 (v := .int .i64 6) h73 rfl fun a1629 h1629 => ?_; clear h73
      refine pl_nil ?_
      refine co_then ?_
      refine wp_ret ?_
      refine co_thenR ?_
      refine co_ret1 h1629 rfl rfl ?_
      have hr1630 := row_kept_new hr52 (below_grown hb62)
      have hk1631 := hk50.below hb62
      have hE : setE X (j : Int) c r l ts = 6 := setE_c (by omega) (by omega) (by omega)
      exact ⟨_, _, ret_int hE.symm, ⟨hk1631, hr1630, hE70, hO.sb, hO.su, hO.len⟩, by rw [setL_no (by rw [hE]; omega)], hB68⟩
    ·
     rw [hc67] at h66
     have hp1632 : chkB c r l ≠ 0 := by first | simpa using hc67 | simpa [and_assoc] using hc67
     clear hc67
     refine co_true h66 rfl ?_
     refine co_seq ?_
     refine co_reg ?_
     refine pk0 (v := .int .i64 (chkB c r l)) h66 rfl fun a1633 h1633 => ?_; clear h66
     refine pk0 (v := .int .i64 (chkB c r l)) h1633 rfl fun a1634 h1634 => ?_; clear h1633
     refine pl_nil ?_
     refine co_then ?_
     refine wp_ret ?_
     refine co_thenR ?_
     refine co_ret1 h1634 rfl rfl ?_
     have hr1635 := row_kept_new hr52 (below_grown hb62)
     have hk1636 := hk50.below hb62
     have hE : setE X (j : Int) c r l ts = chkB c r l := setE_b (by omega) (by omega)
     exact ⟨_, _, ret_int hE.symm, ⟨hk1636, hr1635, hE70, hO.sb, hO.su, hO.len⟩, by rw [setL_no (by rw [hE]; omega)], hB68⟩
   ·
    rw [hc56] at h55
    have hp1637 : ((j : Nat) : Int) > ((X.length : Nat) : Int) := of_decide_eq_true hc56
    clear hc56
    refine co_true h55 rfl ?_
    refine co_seq ?_
    refine co_reg ?_
    refine pk0 (v := .int .i64 1) h55 rfl fun a1638 h1638 => ?_; clear h55
    refine pl_nil ?_
    refine co_then ?_
    refine wp_ret ?_
    refine co_thenR ?_
    refine co_ret1 h1638 rfl rfl ?_
    have hE1639 := hO.ents.new hg34
    have hE : setE X (j : Int) c r l ts = 1 := setE_a (by omega)
    exact ⟨_, _, ret_int hE.symm, ⟨hk50, hr52, hE1639, hO.sb, hO.su, hO.len⟩, by rw [setL_no (by rw [hE]; omega)], hB57⟩
end Go.Proofs.Ythmnndbpadegnaa
