/- The document's own plan: Next. Conditions: at most 1000 who join. -/
import Derived.Test.YtcnahhobppnbbaaPlanD
import Derived.Test.YtcnahhobppnbbaaPlanE
namespace Go.Proofs.Ytcnahhobppnbbaa
open Go.RowKit Go.PlainAid
set_option linter.unusedVariables false


def trL (l : List MemT) (k : Nat) : List Int := (List.range k).flatMap fun (n : Nat) => (l.filter fun o => o.1 == (n : Int)).map fun o => o.1
theorem trL_succ (l : List MemT) (k : Nat) : trL l (k + 1) = trL l k ++ (l.filter fun o => o.1 == (k : Int)).map fun o => o.1 := by
  unfold trL; rw [List.range_succ, List.flatMap_append]; simp
theorem tr_yes {A : List Int} {l : List MemT} {i k : Nat} {y : MemT} (h : l[i]? = some y) (e : y.1 = ((k : Nat) : Int)) : A ++ ((l.take i).filter fun o => o.1 == (k : Int)).map (fun o => o.1) ++ [((k : Nat) : Int)] = A ++ ((l.take (i + 1)).filter fun o => o.1 == (k : Int)).map (fun o => o.1) := by
  rw [takeP_at h, List.filter_append, List.map_append, List.append_assoc]
  have : [y].filter (fun o => o.1 == (k : Int)) = [y] := by rw [List.filter_cons]; simp [e]
  rw [this, ← e]; rfl
theorem tr_no {A : List Int} {l : List MemT} {i k : Nat} {y : MemT} (h : l[i]? = some y) (e : ¬ y.1 = ((k : Nat) : Int)) : A ++ ((l.take i).filter fun o => o.1 == (k : Int)).map (fun o => o.1) = A ++ ((l.take (i + 1)).filter fun o => o.1 == (k : Int)).map (fun o => o.1) := by
  rw [takeP_at h, List.filter_append]
  have : [y].filter (fun o => o.1 == (k : Int)) = [] := by rw [List.filter_cons]; simp [e]
  rw [this, List.append_nil]
theorem tr_next {ms : List MemT} {lg gn : List Int} {js : List MemT} {i k : Nat} (h : i = (keepL ms lg gn).length) : trL (keepL ms lg gn) k ++ (((planL ms lg gn js).take i).filter fun o => o.1 == (k : Int)).map (fun o => o.1) = trL (keepL ms lg gn) (k + 1) := by
  subst h; rw [plan_take, trL_succ]
theorem tr_end {l : List MemT} {k : Nat} (h : k = 4) : trL l k = trustL l := by subst h; rfl
theorem tr_len {ms : List MemT} {lg gn : List Int} : ∀ k, (trL (keepL ms lg gn) k).length ≤ k * (keepL ms lg gn).length := by
  intro k
  induction k with
  | zero => simp [trL]
  | succ k ih =>
    rw [trL_succ, List.length_append, List.length_map, Nat.add_mul, Nat.one_mul]
    have := List.length_filter_le (fun o : MemT => o.1 == (k : Int)) (keepL ms lg gn)
    omega

set_option maxRecDepth 100000 in
theorem rnext_any (ep : Int) (mv : Value) (ms : List MemT) (fl : Int) (lv : Value) (lg : List Int) (gv : Value) (gn : List Int) (jv : Value) (js : List MemT) (last : Int) (w : World) (hs : SliceOf memE 2 w mv ms) (hmk : ∀ z ∈ ms, memOk z) (hlg : SliceOf (intE .i64) 1 w lv lg) (hgn : SliceOf (intE .i64) 1 w gv gn) (hjs : SliceOf memE 2 w jv js) (hjk : ∀ z ∈ js, memOk z) (he : -9223372036854775808 ≤ ep ∧ ep ≤ 9223372036854775807) (hf : 0 ≤ fl ∧ fl < 18446744073709551616) (hla : 0 ≤ last ∧ last < 18446744073709551616) (hjl : js.length ≤ 1000) :
    Calls Try.prog 64 #[.agg #[.int .i64 ep, mv, .int .u64 fl], lv, gv, jv, .int .u64 last] w fun e w' => ∃ (u : Value) (t : Value), e = .returned (.tuple #[.agg #[.int .i64 (nextEp ep ms lg gn js), u, .int .u64 (nextFl ep ms fl lg gn js last)], t, .int .i64 (nextE ep ms lg gn js)]) ∧ w'.ownsRow w.heap.size 114 2 u (nextM ep ms lg gn js).length ((nextM ep ms lg gn js).flatMap memE) ∧ w'.ownsRow w.heap.size 3 1 t (nextT ep ms lg gn js).length ((nextT ep ms lg gn js).flatMap (intE .i64)) ∧ Below w.heap.size w w' := by
 have hB0 := Below.refl w.heap.size w
 have hl_hs := sl_len hs
 have hl_hlg := sl_len hlg
 have hl_hgn := sl_len hgn
 have hl_hjs := sl_len hjs
 refine co_enter (n := 82) Try.func64 rfl rfl rfl [(0, .agg #[.int .i64 ep, mv, .int .u64 fl]), (1, lv), (2, gv), (3, jv), (4, .int .u64 last)] rfl (fun a h0 => ?_)
 refine co_seq ?_
 refine co_reg ?_
 refine pw h0 rfl (op_new (v := fun N => pt N 0) (T := 91) (cs := #[.int .i64 ep, mv, .int .u64 fl]) (by kernel_rfl) (by kernel_rfl) (by kernel_rfl)) ?_; clear h0
 rintro _ w2 a1 ⟨N3, rfl, hN6, hz7, hk5, hg4⟩ h1
 have hz8 := hg4.size
 try dsimp only at h1
 refine pw h1 rfl (op_new (v := fun N => pt N 0) (T := 91) (cs := #[.int .i64 0, .slice none 0 0, .int .u64 0]) (by kernel_rfl) (by kernel_rfl) (by kernel_rfl)) ?_; clear h1
 rintro _ w10 a9 ⟨N11, rfl, hN14, hz15, hk13, hg12⟩ h9
 have hz16 := hg12.size
 try dsimp only at h9
 refine pk0 (v := .slice none 0 0) h9 rfl fun a17 h17 => ?_; clear h9
 refine pk0 (v := .int .i64 0) h17 rfl fun a18 h18 => ?_; clear h17
 refine pl_nil ?_
 refine co_then ?_
 refine co_seq ?_
 refine co_seq ?_
 refine co_reg ?_
 have hk19 := hk5.kept hg12 (by simp)
 refine pk (v := .agg #[.int .i64 ep, mv, .int .u64 fl]) h18 rfl (rn_loadN rfl rfl Try.underlying91 rfl (by kernel_rfl) hk19.all) fun a20 h20 => ?_; clear h18
 have hB23 := hb_new hB0 hg4
 have hB24 := hb_new hB23 hg12
 refine pw h20 rfl (op_call (args := #[.agg #[.int .i64 ep, mv, .int .u64 fl]]) (R := fun res xw => res = .int .i64 (chkC ep ms) ∧ Below w10.heap.size w10 xw) rfl rfl rfl (by kernel_rfl) (by kernel_rfl) (Try.call69 _ _) (wrcheck_any ep mv ms fl w10 (hs.below hB24) (by assumption) (by first | omega | (simp; done) | (simp; omega)) (by first | omega | (simp; done) | (simp; omega))) (by rintro e x ⟨rfl, hb25⟩; exact ⟨_, rfl, ⟨rfl, hb25⟩⟩)) ?_; clear h20
 rintro _ w22 a21 ⟨rfl, hb25⟩ h21
 have hz26 := hb25.size
 refine pk0 (v := .int .i64 (chkC ep ms)) h21 rfl fun a27 h27 => ?_; clear h21
 refine pl_nil ?_
 refine co_then ?_
 refine co_seq ?_
 refine co_reg ?_
 refine pk0 (v := .int .i64 (chkC ep ms)) h27 rfl fun a28 h28 => ?_; clear h27
 refine pk0 (v := .bool (chkC ep ms != 0)) h28 rfl fun a29 h29 => ?_; clear h28
 refine pl_nil ?_
 refine co_then ?_
 have hB31 := hb_call hB24 hb25
 cases hc30 : (chkC ep ms != 0)
 ·
  rw [hc30] at h29
  have hp32 : ¬ (chkC ep ms ≠ 0) := by first | simpa using hc30 | simpa [and_assoc] using hc30
  clear hc30
  refine co_false h29 rfl ?_
  refine wp_skip ?_
  refine co_then ?_
  refine co_seq ?_
  refine co_reg ?_
  have hk33 := hk19.below hb25
  refine pk (v := .agg #[.int .i64 ep, mv, .int .u64 fl]) h29 rfl (rn_loadN rfl rfl Try.underlying91 rfl (by kernel_rfl) hk33.all) fun a34 h34 => ?_; clear h29
  refine pk0 (v := lv) h34 rfl fun a35 h35 => ?_; clear h34
  refine pk0 (v := gv) h35 rfl fun a36 h36 => ?_; clear h35
  refine pk0 (v := jv) h36 rfl fun a37 h37 => ?_; clear h36
  have hk4 := (chkC_iff.1 (by omega : chkC ep ms = 0)).2.1
  have hke := (chkC_iff.1 (by omega : chkC ep ms = 0)).1
  have hge := plan_ge ms lg gn js
  have hp4 := plan_le4 (lg := lg) (gn := gn) (js := js) hk4.2
  refine pw h37 rfl (op_call (args := #[.agg #[.int .i64 ep, mv, .int .u64 fl], lv, gv, jv]) (R := fun res xw => ∃ u : Value, res = .tuple #[u, .int .i64 (((keepL ms lg gn).length : Nat) : Int)] ∧ xw.ownsRow w22.heap.size 114 2 u (planL ms lg gn js).length ((planL ms lg gn js).flatMap memE) ∧ Below w22.heap.size w22 xw) rfl rfl rfl (by kernel_rfl) (by kernel_rfl) (Try.call106 _ _) (order_any ep mv ms fl lv lg gv gn jv js w22 (hs.below hB31) hmk (hlg.below hB31) (hgn.below hB31) (hjs.below hB31) hjk (by first | omega | (simp; done) | (simp; omega))) (by rintro e x ⟨u, rfl, hq41, hb42⟩; exact ⟨_, rfl, ⟨u, rfl, hq41, hb42⟩⟩)) ?_; clear h37
  rintro _ w39 a38 ⟨u40, rfl, hq41, hb42⟩ h38
  have hz43 := hb42.size
  have hl44 := sl_len (row_sl hq41 memE_len)
  refine pk0 (v := .tuple #[u40, .int .i64 (((keepL ms lg gn).length : Nat) : Int)]) h38 rfl fun a45 h45 => ?_; clear h38
  refine pk0 (v := u40) h45 rfl fun a46 h46 => ?_; clear h45
  refine pk0 (v := .int .i64 (((keepL ms lg gn).length : Nat) : Int)) h46 rfl fun a47 h47 => ?_; clear h46
  refine pk0 (v := u40) h47 rfl fun a48 h48 => ?_; clear h47
  refine pk0 (v := .int .i64 (((keepL ms lg gn).length : Nat) : Int)) h48 rfl fun a49 h49 => ?_; clear h48
  refine pl_nil ?_
  refine co_then ?_
  refine co_seq ?_
  refine co_seq ?_
  refine co_reg ?_
  refine pk0 (v := .int .i64 (((keepL ms lg gn).length : Nat) : Int)) h49 rfl fun a50 h50 => ?_; clear h49
  refine pk0 (v := .bool ((((keepL ms lg gn).length : Nat) : Int) == 0)) h50 rfl fun a51 h51 => ?_; clear h50
  refine pl_nil ?_
  refine co_then ?_
  have hB53 := hb_call hB31 hb42
  have hk54 := hk13.below hb25
  have hk55 := hk54.below hb42
  cases hc52 : ((((keepL ms lg gn).length : Nat) : Int) == 0)
  ·
   rw [hc52] at h51
   have hp56 : ¬ ((((keepL ms lg gn).length : Nat) : Int) = 0) := by first | simpa using hc52 | simpa [and_assoc] using hc52
   clear hc52
   refine co_false h51 rfl ?_
   refine wp_skip ?_
   refine co_then ?_
   refine co_seq ?_
   refine co_reg ?_
   refine pk0 (v := pt N3 0) h51 rfl fun a57 h57 => ?_; clear h51
   have hk58 := hk33.below hb42
   refine pk (v := .int .i64 ep) h57 rfl (rn_load1 rfl rfl Try.isAgg3 (hk58.cell rfl)) fun a59 h59 => ?_; clear h57
   refine pk0 (v := u40) h59 rfl fun a60 h60 => ?_; clear h59
   refine pk0 (v := pt N3 2) h60 rfl fun a61 h61 => ?_; clear h60
   refine pk (v := .int .u64 fl) h61 rfl (rn_load1 rfl rfl Try.isAgg61 (hk58.cell rfl)) fun a62 h62 => ?_; clear h61
   refine pk (v := .agg #[.int .i64 ep, u40, .int .u64 fl]) h62 rfl (by obtain ⟨_, _, _, hq⟩ := row_form hq41; subst hq; kernel_rfl) fun a63 h63 => ?_; clear h62
   refine pw h63 rfl (op_new (v := fun N => pt N 0) (T := 91) (cs := #[.int .i64 0, .slice none 0 0, .int .u64 0]) (by kernel_rfl) (by kernel_rfl) (by kernel_rfl)) ?_; clear h63
   rintro _ w65 a64 ⟨N66, rfl, hN69, hz70, hk68, hg67⟩ h64
   have ha71 := row_fresh hq41 hN69
   have hz72 := hg67.size
   try dsimp only at h64
   have hr78 := row_kept_new hq41 hg67
   refine pwD h64 rfl (op_storeN rfl rfl rfl (all_cons rfl (all_cons (row_one hr78) (all_cons rfl all_nil))) (by kernel_rfl) hk68 rfl) ?_; clear h64
   rintro _ w74 a73 ⟨hk75, hz76, hg77⟩ h73
   have hk75' : Blk w74 N66 91 #[.int .i64 ep, u40, .int .u64 fl] := hk75; clear hk75
   have hz79 := hg77.size
   refine pl_nil ?_
   refine co_then ?_
   refine co_seq ?_
   refine co_seq ?_
   refine co_reg ?_
   refine pk (v := .agg #[.int .i64 ep, u40, .int .u64 fl]) h73 rfl (rn_loadN rfl rfl Try.underlying91 rfl (by kernel_rfl) hk75'.all) fun a80 h80 => ?_; clear h73
   have hk81 := hk58.kept hg67 (by simp)
   have hk82 := hk81.kept hg77 (by simp; omega)
   refine pk (v := .agg #[.int .i64 ep, mv, .int .u64 fl]) h80 rfl (rn_loadN rfl rfl Try.underlying91 rfl (by kernel_rfl) hk82.all) fun a83 h83 => ?_; clear h80
   have hr86 := row_kept_at hr78 hg77 (ha71)
   have hB87 := hb_new hB53 hg67
   have hB88 := hb_at hB87 hg77 (by omega)
   refine pw h83 rfl (op_call (args := #[.agg #[.int .i64 ep, u40, .int .u64 fl], .agg #[.int .i64 ep, mv, .int .u64 fl]]) (R := fun res xw => res = .bool (sameCf ep (planL ms lg gn js) fl ep ms fl) ∧ Below w74.heap.size w74 xw) rfl rfl rfl (by kernel_rfl) (by kernel_rfl) (Try.call65 _ _) (wrsame_any ep u40 (planL ms lg gn js) fl ep mv ms fl w74 (row_sl hr86 memE_len) (plan_ok hmk hjk) he hf (hs.below hB88) hmk he hf) (by rintro e x ⟨rfl, hb89⟩; exact ⟨_, rfl, ⟨rfl, hb89⟩⟩)) ?_; clear h83
   rintro _ w85 a84 ⟨rfl, hb89⟩ h84
   have hz90 := hb89.size
   refine pl_nil ?_
   refine co_then ?_
   have hB92 := hb_call hB88 hb89
   have hk93 := hk55.kept hg67 (by simp)
   have hk94 := hk93.kept hg77 (by simp; omega)
   have hk95 := hk94.below hb89
   cases hc91 : (sameCf ep (planL ms lg gn js) fl ep ms fl)
   ·
    rw [hc91] at h84
    refine co_false h84 rfl ?_
    refine wp_skip ?_
    refine co_then ?_
    refine co_seq ?_
    refine co_seq ?_
    refine co_reg ?_
    refine pk0 (v := pt N3 0) h84 rfl fun a96 h96 => ?_; clear h84
    have hk97 := hk82.below hb89
    refine pk (v := .int .i64 ep) h96 rfl (rn_load1 rfl rfl Try.isAgg3 (hk97.cell rfl)) fun a98 h98 => ?_; clear h96
    refine pk0 (v := .bool (decide (ep ≥ 1073741824))) h98 rfl fun a99 h99 => ?_; clear h98
    refine pl_nil ?_
    refine co_then ?_
    cases hc100 : (decide (ep ≥ 1073741824))
    ·
     rw [hc100] at h99
     have hp101 : ¬ (ep ≥ 1073741824) := of_decide_eq_false hc100
     clear hc100
     refine co_false h99 rfl ?_
     refine wp_skip ?_
     refine co_then ?_
     refine co_seq ?_
     refine co_reg ?_
     refine pk0 (v := pt N3 0) h99 rfl fun a102 h102 => ?_; clear h99
     refine pk (v := .int .i64 ep) h102 rfl (rn_load1 rfl rfl Try.isAgg3 (hk97.cell rfl)) fun a103 h103 => ?_; clear h102
     refine pk (v := .int .i64 (ep + 1)) h103 rfl (rn_arith rfl rfl rfl rfl rfl rfl (IntWalk.i64_in _ (by omega))) fun a104 h104 => ?_; clear h103
     refine pk0 (v := pt N66 0) h104 rfl fun a105 h105 => ?_; clear h104
     have hk111 := hk75'.below hb89
     refine pwD h105 rfl (op_store1 rfl rfl rfl rfl Try.sizeOf3 hk111 rfl) ?_; clear h105
     rintro _ w107 a106 ⟨hk108, hz109, hg110⟩ h106
     have hk108' : Blk w107 N66 91 #[.int .i64 (ep + 1), u40, .int .u64 fl] := hk108; clear hk108
     have hz112 := hg110.size
     refine pl_nil ?_
     refine co_then ?_
     refine co_seq ?_
     refine co_reg ?_
     refine pk0 (v := pt N3 2) h106 rfl fun a113 h113 => ?_; clear h106
     have hk114 := hk97.kept hg110 (by simp; omega)
     refine pk (v := .int .u64 fl) h113 rfl (rn_load1 rfl rfl Try.isAgg61 (hk114.cell rfl)) fun a115 h115 => ?_; clear h113
     refine pk0 (v := .int .u64 last) h115 rfl fun a116 h116 => ?_; clear h115
     refine pw h116 rfl (op_call (args := #[.int .u64 fl, .int .u64 last]) (R := fun res xw => res = .int .u64 (floorP fl last) ∧ Below w107.heap.size w107 xw) rfl rfl rfl (by kernel_rfl) (by kernel_rfl) (Try.call68 _ _) (rfloor_any fl last w107 (by first | omega | (simp; done) | (simp; omega)) (by first | omega | (simp; done) | (simp; omega))) (by rintro e x ⟨rfl, hb119⟩; exact ⟨_, rfl, ⟨rfl, hb119⟩⟩)) ?_; clear h116
     rintro _ w118 a117 ⟨rfl, hb119⟩ h117
     have hz120 := hb119.size
     refine pk0 (v := pt N66 2) h117 rfl fun a121 h121 => ?_; clear h117
     have hk127 := hk108'.below hb119
     refine pwD h121 rfl (op_store1 rfl rfl rfl rfl Try.sizeOf61 hk127 rfl) ?_; clear h121
     rintro _ w123 a122 ⟨hk124, hz125, hg126⟩ h122
     have hk124' : Blk w123 N66 91 #[.int .i64 (ep + 1), u40, .int .u64 (floorP fl last)] := hk124; clear hk124
     have hz128 := hg126.size
     refine pl_nil ?_
     refine co_then ?_
     refine co_seq ?_
     refine co_reg ?_
     refine pk0 (v := .slice none 0 0) h122 rfl fun a129 h129 => ?_; clear h122
     refine pl_nil ?_
     refine co_then ?_
     refine co_seq ?_
     refine co_seq ?_
     refine co_reg ?_
     refine pk0 (v := .int .i64 0) h129 rfl fun a130 h130 => ?_; clear h129
     refine pl_nil ?_
     refine co_then ?_
     refine wp_block ?_
     have h131 : Slots 82 [(4, .int .u64 last), (5, pt N3 0), (10, pt N11 0), (14, u40), (15, .int .i64 (((keepL ms lg gn).length : Nat) : Int)), (16, pt N66 0), (17, .slice none 0 0), (18, .int .i64 0)] _ := h130.sub ⟨rfl, rfl, rfl, rfl, rfl, rfl, rfl, rfl, trivial⟩; clear h130
     refine co_loop (fun mm a x => ∃ (k : Nat) (u1 : Value), Slots 82 [(4, .int .u64 last), (5, pt N3 0), (10, pt N11 0), (14, u40), (15, .int .i64 (((keepL ms lg gn).length : Nat) : Int)), (16, pt N66 0), (17, u1), (18, .int .i64 ((k : Nat) : Int))] a ∧ mm = 4 - k ∧ (k ≤ 4) ∧ x.ownsRow w22.heap.size 114 2 u40 (planL ms lg gn js).length ((planL ms lg gn js).flatMap memE) ∧ x.ownsRow (N66 + 1) 3 1 u1 (trL (keepL ms lg gn) k).length ((trL (keepL ms lg gn) k).flatMap (intE .i64)) ∧ Below w.heap.size w x ∧ Blk x N3 91 #[.int .i64 ep, mv, .int .u64 fl] ∧ Blk x N11 91 #[.int .i64 0, .slice none 0 0, .int .u64 0] ∧ Blk x N66 91 #[.int .i64 (ep + 1), u40, .int .u64 (floorP fl last)]) (4 - 0) ?_ ?_
     have hr132 := row_kept_new hr86 (below_grown hb89)
     have hr133 := row_kept_at hr132 hg110 (ha71)
     have hr134 := row_kept_new hr133 (below_grown hb119)
     have hr135 := row_kept_at hr134 hg126 (ha71)
     have hB136 := hb_at hB92 hg110 (by omega)
     have hB137 := hb_call hB136 hb119
     have hB138 := hb_at hB137 hg126 (by omega)
     have hk139 := hk114.below hb119
     have hk140 := hk139.kept hg126 (by simp; omega)
     have hk141 := hk95.kept hg110 (by simp; omega)
     have hk142 := hk141.below hb119
     have hk143 := hk142.kept hg126 (by simp; omega)
     · exact ⟨0, (.slice none 0 0), h131.sub ⟨rfl, rfl, rfl, rfl, rfl, rfl, rfl, (slot_eq rfl (congrArg (Value.int .i64) (by first | rfl | omega))), trivial⟩, rfl, by omega, hr135, (row_nilL _ _ _ _ _), hB138, hk140, hk143, hk124'⟩
     · rintro k144 a145 w146 ⟨k, u1, h145, rfl, hi147, hf148, hf149, hB150, hk151, hk152, hk153⟩
       have hz154 := hB150.size
       have hl155 := hk151.lt
       have hl156 := hk152.lt
       have hl157 := hk153.lt
       have htl := tr_len (ms := ms) (lg := lg) (gn := gn) k
       have htm : k * (keepL ms lg gn).length ≤ 4 * 4 := Nat.mul_le_mul (by omega) (by omega)
       refine co_seq ?_
       refine co_seq ?_
       refine co_reg ?_
       refine pk0 (v := .int .i64 ((k : Nat) : Int)) h145 rfl fun a158 h158 => ?_; clear h145
       refine pk0 (v := .bool (decide (((k : Nat) : Int) < 4))) h158 rfl fun a159 h159 => ?_; clear h158
       refine pl_nil ?_
       refine co_then ?_
       cases hc160 : (decide (((k : Nat) : Int) < 4))
       ·
        rw [hc160] at h159
        have hp161 : ¬ (((k : Nat) : Int) < 4) := of_decide_eq_false hc160
        clear hc160
        refine co_false h159 rfl ?_
        refine wp_exit ?_
        refine co_thenX ?_
        refine co_thenX ?_
        refine co_blockX ?_
        refine co_then ?_
        refine co_seq ?_
        refine co_reg ?_
        refine pk (v := .agg #[.int .i64 (ep + 1), u40, .int .u64 (floorP fl last)]) h159 rfl (rn_loadN rfl rfl Try.underlying91 rfl (by kernel_rfl) hk153.all) fun a162 h162 => ?_; clear h159
        refine pk0 (v := u1) h162 rfl fun a163 h163 => ?_; clear h162
        refine pwD h163 rfl (op_storeN rfl rfl rfl (all_cons rfl (all_cons (row_one hf148) (all_cons rfl all_nil))) (by kernel_rfl) hk152 rfl) ?_; clear h163
        rintro _ w165 a164 ⟨hk166, hz167, hg168⟩ h164
        have hk166' : Blk w165 N11 91 #[.int .i64 (ep + 1), u40, .int .u64 (floorP fl last)] := hk166; clear hk166
        have hz169 := hg168.size
        refine pk0 (v := u1) h164 rfl fun a170 h170 => ?_; clear h164
        refine pk0 (v := .int .i64 0) h170 rfl fun a171 h171 => ?_; clear h170
        refine pl_nil ?_
        refine co_then ?_
        refine wp_ret ?_
        refine co_retC2 (Q := fun _ _ _ => True) h171 rfl rfl rfl rfl hk166' Try.underlying91 rfl (by kernel_rfl) ?_
        have hr172 := row_kept_at hf148 hg168 (own_neT hf148 hk152 (by decide))
        have hr173 := row_kept_at hf149 hg168 (own_neT hf149 hk152 (by decide))
        have hB174 := hb_at hB150 hg168 (by omega)
        have hE : 0 = nextE ep ms lg gn js := nextE_0 (by omega) (by omega) (sameCf_f (by assumption)) (by omega)
        have hX := next_ok (fl := fl) (last := last) hE
        exact ⟨_, _, by rw [hX.2.1, hX.2.2.1, ← hE], (row_eq (row_lows hr172 (by omega)) (hX.1.symm)), (row_eq (row_lows hr173 (by omega)) ((tr_end (by omega)).trans hX.2.2.2.symm)), hB174⟩
       ·
        rw [hc160] at h159
        have hp175 : ((k : Nat) : Int) < 4 := of_decide_eq_true hc160
        clear hc160
        refine co_true h159 rfl ?_
        refine wp_skip ?_
        refine co_then ?_
        refine co_seq ?_
        refine wp_block ?_
        refine co_seq ?_
        refine co_reg ?_
        refine pk0 (v := .int .i64 0) h159 rfl fun a176 h176 => ?_; clear h159
        refine pl_nil ?_
        refine co_then ?_
        refine wp_block ?_
        have h177 : Slots 82 [(4, .int .u64 last), (5, pt N3 0), (10, pt N11 0), (14, u40), (15, .int .i64 (((keepL ms lg gn).length : Nat) : Int)), (16, pt N66 0), (17, u1), (18, .int .i64 ((k : Nat) : Int)), (19, .int .i64 0)] _ := h176.sub ⟨rfl, rfl, rfl, rfl, rfl, rfl, rfl, rfl, rfl, trivial⟩; clear h176
        refine co_loop (fun mm a x => ∃ (i : Nat) (u2 : Value), Slots 82 [(4, .int .u64 last), (5, pt N3 0), (10, pt N11 0), (14, u40), (15, .int .i64 (((keepL ms lg gn).length : Nat) : Int)), (16, pt N66 0), (17, u2), (18, .int .i64 ((k : Nat) : Int)), (19, .int .i64 ((i : Nat) : Int))] a ∧ mm = (keepL ms lg gn).length - i ∧ (i ≤ (keepL ms lg gn).length) ∧ x.ownsRow w22.heap.size 114 2 u40 (planL ms lg gn js).length ((planL ms lg gn js).flatMap memE) ∧ x.ownsRow (N66 + 1) 3 1 u2 (trL (keepL ms lg gn) k ++ (((planL ms lg gn js).take i).filter (fun o => o.1 == ((k : Nat) : Int))).map (fun o => o.1)).length ((trL (keepL ms lg gn) k ++ (((planL ms lg gn js).take i).filter (fun o => o.1 == ((k : Nat) : Int))).map (fun o => o.1)).flatMap (intE .i64)) ∧ Below w.heap.size w x ∧ Blk x N3 91 #[.int .i64 ep, mv, .int .u64 fl] ∧ Blk x N11 91 #[.int .i64 0, .slice none 0 0, .int .u64 0] ∧ Blk x N66 91 #[.int .i64 (ep + 1), u40, .int .u64 (floorP fl last)]) ((keepL ms lg gn).length - 0) ?_ ?_
        · exact ⟨0, u1, h177.sub ⟨rfl, rfl, rfl, rfl, rfl, rfl, rfl, rfl, (slot_eq rfl (congrArg (Value.int .i64) (by first | rfl | omega))), trivial⟩, rfl, by omega, hf148, (row_eq hf149 (by first | exact (List.append_nil _).symm | exact tr_yes (by assumption) (by omega) | exact tr_no (by assumption) (by omega))), hB150, hk151, hk152, hk153⟩
        · rintro k178 a179 w180 ⟨i, u2, h179, rfl, hi181, hf182, hf183, hB184, hk185, hk186, hk187⟩
          have hz188 := hB184.size
          have hl189 := hk185.lt
          have hl190 := hk186.lt
          have hl191 := hk187.lt
          have hfl := List.length_filter_le (fun o : MemT => o.1 == ((k : Nat) : Int)) ((planL ms lg gn js).take i)
          have hfm := List.length_take_le i (planL ms lg gn js)
          have hfn : ((((planL ms lg gn js).take i).filter (fun o => o.1 == ((k : Nat) : Int))).map (fun o => o.1)).length = (((planL ms lg gn js).take i).filter (fun o => o.1 == ((k : Nat) : Int))).length := List.length_map ..
          refine co_seq ?_
          refine co_seq ?_
          refine co_reg ?_
          refine pk0 (v := .int .i64 ((i : Nat) : Int)) h179 rfl fun a192 h192 => ?_; clear h179
          refine pk0 (v := .int .i64 (((keepL ms lg gn).length : Nat) : Int)) h192 rfl fun a193 h193 => ?_; clear h192
          refine pk0 (v := .bool (decide (((i : Nat) : Int) < (((keepL ms lg gn).length : Nat) : Int)))) h193 rfl fun a194 h194 => ?_; clear h193
          refine pl_nil ?_
          refine co_then ?_
          cases hc195 : (decide (((i : Nat) : Int) < (((keepL ms lg gn).length : Nat) : Int)))
          ·
           rw [hc195] at h194
           have hp196 : ¬ (((i : Nat) : Int) < (((keepL ms lg gn).length : Nat) : Int)) := of_decide_eq_false hc195
           clear hc195
           refine co_false h194 rfl ?_
           refine wp_exit ?_
           refine co_thenX ?_
           refine co_thenX ?_
           refine co_blockX ?_
           refine co_blockN ?_
           refine co_then ?_
           refine co_reg ?_
           refine pk0 (v := .int .i64 ((k : Nat) : Int)) h194 rfl fun a197 h197 => ?_; clear h194
           refine pk (v := .int .i64 ((k + 1 : Nat) : Int)) h197 rfl (rn_arith' rfl rfl rfl rfl rfl rfl (IntWalk.i64_in _ (by omega)) (by omega)) fun a198 h198 => ?_; clear h197
           refine pk0 (v := .int .i64 ((k + 1 : Nat) : Int)) h198 rfl fun a199 h199 => ?_; clear h198
           refine pl_nil ?_
           refine co_then ?_
           refine ⟨(4 - (k + 1)), by omega, ?_⟩
           exact ⟨k + 1, u2, h199.sub ⟨rfl, rfl, rfl, rfl, rfl, rfl, rfl, rfl, trivial⟩, rfl, by omega, hf182, (row_eq hf183 (by first | rfl | exact tr_next (by omega))), hB184, hk185, hk186, hk187⟩
          ·
           rw [hc195] at h194
           have hp200 : ((i : Nat) : Int) < (((keepL ms lg gn).length : Nat) : Int) := of_decide_eq_true hc195
           clear hc195
           refine co_true h194 rfl ?_
           refine wp_skip ?_
           refine co_then ?_
           refine co_seq ?_
           refine wp_block ?_
           refine co_seq ?_
           refine co_reg ?_
           refine pk0 (v := u40) h194 rfl fun a201 h201 => ?_; clear h194
           refine pk0 (v := .int .i64 ((i : Nat) : Int)) h201 rfl fun a202 h202 => ?_; clear h201
           obtain ⟨y203, hy203⟩ : ∃ z, (planL ms lg gn js)[i]? = some z := ⟨_, List.getElem?_eq_getElem (by first | omega | (simp; done) | (simp; omega))⟩
           refine pk (v := pt (blkOf u40) (offOf u40 + i * 2)) h202 rfl (rn_index rfl rfl rfl Try.underlying89 Try.sizeOf114 (row_sl hf182 memE_len) (by omega) (by first | omega | (simp; done) | (simp; omega))) fun a204 h204 => ?_; clear h202
           refine pk0 (v := pt (blkOf u40) (offOf u40 + i * 2)) h204 rfl fun a205 h205 => ?_; clear h204
           refine pk (v := .int .i64 y203.1) h205 rfl (rn_load1 rfl rfl Try.isAgg3 ((sl_at (row_sl hf182 memE_len) hy203) 0 _ rfl)) fun a206 h206 => ?_; clear h205
           refine pk0 (v := .int .i64 ((k : Nat) : Int)) h206 rfl fun a207 h207 => ?_; clear h206
           refine pk0 (v := .bool (y203.1 == ((k : Nat) : Int))) h207 rfl fun a208 h208 => ?_; clear h207
           refine pl_nil ?_
           refine co_then ?_
           cases hc209 : (y203.1 == ((k : Nat) : Int))
           ·
            rw [hc209] at h208
            have hp210 : ¬ (y203.1 = ((k : Nat) : Int)) := by first | simpa using hc209 | simpa [and_assoc] using hc209
            clear hc209
            refine co_false h208 rfl ?_
            refine wp_skip ?_
            refine co_blockN ?_
            refine co_then ?_
            refine co_reg ?_
            refine pk0 (v := .int .i64 ((i : Nat) : Int)) h208 rfl fun a211 h211 => ?_; clear h208
            refine pk (v := .int .i64 ((i + 1 : Nat) : Int)) h211 rfl (rn_arith' rfl rfl rfl rfl rfl rfl (IntWalk.i64_in _ (by omega)) (by omega)) fun a212 h212 => ?_; clear h211
            refine pk0 (v := .int .i64 ((i + 1 : Nat) : Int)) h212 rfl fun a213 h213 => ?_; clear h212
            refine pl_nil ?_
            refine co_then ?_
            refine ⟨((keepL ms lg gn).length - (i + 1)), by omega, ?_⟩
            exact ⟨i + 1, u2, h213.sub ⟨rfl, rfl, rfl, rfl, rfl, rfl, rfl, rfl, rfl, trivial⟩, rfl, by omega, hf182, (row_eq hf183 (by first | exact (List.append_nil _).symm | exact tr_yes (by assumption) (by omega) | exact tr_no (by assumption) (by omega))), hB184, hk185, hk186, hk187⟩
           ·
            rw [hc209] at h208
            have hp214 : y203.1 = ((k : Nat) : Int) := by first | simpa using hc209 | simpa [and_assoc] using hc209
            clear hc209
            refine co_true h208 rfl ?_
            refine co_reg ?_
            refine pk0 (v := u2) h208 rfl fun a215 h215 => ?_; clear h208
            refine pk0 (v := .int .i64 ((k : Nat) : Int)) h215 rfl fun a216 h216 => ?_; clear h215
            refine pw h216 rfl (op_new (v := fun N => .slice (some ⟨N, 0, none⟩) 1 1) (T := 3) (cs := #[.int .i64 ((k : Nat) : Int)]) (by kernel_rfl) (by kernel_rfl) (by kernel_rfl)) ?_; clear h216
            rintro _ w218 a217 ⟨N219, rfl, hN222, hz223, hk221, hg220⟩ h217
            have ha224 := row_fresh hf182 hN222
            have ha225 := row_fresh hf183 hN222
            have hz226 := hg220.size
            try dsimp only at h217
            have hr233 := row_kept_new hf183 hg220
            refine pw h217 rfl (op_append rfl (N66 + 1) 3 (z := .int .i64 0) (size := 1) (bytes := 8) Try.underlying37 (by kernel_rfl) rfl rfl rfl hr233 rfl hk221 rfl (by kernel_rfl) (by first | omega | (simp only [List.length_nil, List.length_append, List.length_cons, List.length_take, List.length_drop]; omega)) (by first | omega | (simp only [List.length_nil, List.length_append, List.length_cons, List.length_take, List.length_drop]; omega)) (by omega)) ?_; clear h217
            rintro v229 w228 a227 ⟨hr230, hg231⟩ h227
            have hr230' : w228.ownsRow (N66 + 1) 3 1 v229 ((trL (keepL ms lg gn) k ++ (((planL ms lg gn js).take i).filter (fun o => o.1 == ((k : Nat) : Int))).map (fun o => o.1) ++ [((k : Nat) : Int)]).length) ((trL (keepL ms lg gn) k ++ (((planL ms lg gn js).take i).filter (fun o => o.1 == ((k : Nat) : Int))).map (fun o => o.1) ++ [((k : Nat) : Int)]).flatMap (intE .i64)) := row_push (y := ((k : Nat) : Int)) hr230 rfl rfl; clear hr230
            have hz234 := hg231.size
            have hk235 := hk185.kept hg220 (by simp)
            have hk236 := hk186.kept hg220 (by simp)
            have hk237 := hk187.kept hg220 (by simp)
            refine pk0 (v := v229) h227 rfl fun a238 h238 => ?_; clear h227
            refine pl_nil ?_
            refine co_blockN ?_
            refine co_then ?_
            refine co_reg ?_
            refine pk0 (v := .int .i64 ((i : Nat) : Int)) h238 rfl fun a239 h239 => ?_; clear h238
            refine pk (v := .int .i64 ((i + 1 : Nat) : Int)) h239 rfl (rn_arith' rfl rfl rfl rfl rfl rfl (IntWalk.i64_in _ (by omega)) (by omega)) fun a240 h240 => ?_; clear h239
            refine pk0 (v := .int .i64 ((i + 1 : Nat) : Int)) h240 rfl fun a241 h241 => ?_; clear h240
            refine pl_nil ?_
            refine co_then ?_
            refine ⟨((keepL ms lg gn).length - (i + 1)), by omega, ?_⟩
            have hr242 := row_kept_new hf182 hg220
            have hr243 := row_kept_row hr242 hr233 hg231 (by decide)
            have hB244 := hb_new hB184 hg220
            have hB245 := hb_row hB244 hr233 (by omega) hg231
            have hk246 := hk235.kept hg231 (own_neT hr233 hk235 (by decide))
            have hk247 := hk236.kept hg231 (own_neT hr233 hk236 (by decide))
            have hk248 := hk237.kept hg231 (own_neT hr233 hk237 (by decide))
            exact ⟨i + 1, v229, h241.sub ⟨rfl, rfl, rfl, rfl, rfl, rfl, rfl, rfl, rfl, trivial⟩, rfl, by omega, hr243, (row_eq hr230' (by first | exact (List.append_nil _).symm | exact tr_yes (by assumption) (by omega) | exact tr_no (by assumption) (by omega))), hB245, hk246, hk247, hk248⟩
    ·
     rw [hc100] at h99
     have hp249 : ep ≥ 1073741824 := of_decide_eq_true hc100
     clear hc100
     refine co_true h99 rfl ?_
     refine co_seq ?_
     refine co_reg ?_
     refine pk0 (v := .agg #[.int .i64 0, .slice none 0 0, .int .u64 0]) h99 rfl fun a250 h250 => ?_; clear h99
     refine pwD h250 rfl (op_storeN rfl rfl rfl (all_cons rfl (all_cons rfl (all_cons rfl all_nil))) (by kernel_rfl) hk95 rfl) ?_; clear h250
     rintro _ w252 a251 ⟨hk253, hz254, hg255⟩ h251
     have hk253' : Blk w252 N11 91 #[.int .i64 0, .slice none 0 0, .int .u64 0] := hk253; clear hk253
     have hz256 := hg255.size
     refine pk0 (v := .slice none 0 0) h251 rfl fun a257 h257 => ?_; clear h251
     refine pk0 (v := .int .i64 5) h257 rfl fun a258 h258 => ?_; clear h257
     refine pl_nil ?_
     refine co_then ?_
     refine wp_ret ?_
     refine co_thenR ?_
     refine co_retC2 (Q := fun _ _ _ => True) h258 rfl rfl rfl rfl hk253' Try.underlying91 rfl (by kernel_rfl) ?_
     have hB259 := hb_at hB92 hg255 (by omega)
     have hE : 5 = nextE ep ms lg gn js := nextE_4 (by omega) (by omega) (sameCf_f (by assumption)) (by omega)
     have hX := next_err (fl := fl) (last := last) (show ¬ nextE ep ms lg gn js = 0 by rw [← hE]; omega)
     exact ⟨.slice none 0 0, .slice none 0 0, by rw [hX.2.1, hX.2.2.1, ← hE], by rw [hX.1]; exact row_nilL _ _ _ _ _, by rw [hX.2.2.2]; exact row_nilL _ _ _ _ _, hB259⟩
   ·
    rw [hc91] at h84
    refine co_true h84 rfl ?_
    refine co_seq ?_
    refine co_reg ?_
    refine pk0 (v := .agg #[.int .i64 0, .slice none 0 0, .int .u64 0]) h84 rfl fun a260 h260 => ?_; clear h84
    refine pwD h260 rfl (op_storeN rfl rfl rfl (all_cons rfl (all_cons rfl (all_cons rfl all_nil))) (by kernel_rfl) hk95 rfl) ?_; clear h260
    rintro _ w262 a261 ⟨hk263, hz264, hg265⟩ h261
    have hk263' : Blk w262 N11 91 #[.int .i64 0, .slice none 0 0, .int .u64 0] := hk263; clear hk263
    have hz266 := hg265.size
    refine pk0 (v := .slice none 0 0) h261 rfl fun a267 h267 => ?_; clear h261
    refine pk0 (v := .int .i64 20) h267 rfl fun a268 h268 => ?_; clear h267
    refine pl_nil ?_
    refine co_then ?_
    refine wp_ret ?_
    refine co_thenR ?_
    refine co_retC2 (Q := fun _ _ _ => True) h268 rfl rfl rfl rfl hk263' Try.underlying91 rfl (by kernel_rfl) ?_
    have hB269 := hb_at hB92 hg265 (by omega)
    have hE : 20 = nextE ep ms lg gn js := nextE_3 (by omega) (by omega) (sameCf_t (by assumption))
    have hX := next_err (fl := fl) (last := last) (show ¬ nextE ep ms lg gn js = 0 by rw [← hE]; omega)
    exact ⟨.slice none 0 0, .slice none 0 0, by rw [hX.2.1, hX.2.2.1, ← hE], by rw [hX.1]; exact row_nilL _ _ _ _ _, by rw [hX.2.2.2]; exact row_nilL _ _ _ _ _, hB269⟩
  ·
   rw [hc52] at h51
   have hp270 : (((keepL ms lg gn).length : Nat) : Int) = 0 := by first | simpa using hc52 | simpa [and_assoc] using hc52
   clear hc52
   refine co_true h51 rfl ?_
   refine co_seq ?_
   refine co_reg ?_
   refine pk0 (v := .agg #[.int .i64 0, .slice none 0 0, .int .u64 0]) h51 rfl fun a271 h271 => ?_; clear h51
   refine pwD h271 rfl (op_storeN rfl rfl rfl (all_cons rfl (all_cons rfl (all_cons rfl all_nil))) (by kernel_rfl) hk55 rfl) ?_; clear h271
   rintro _ w273 a272 ⟨hk274, hz275, hg276⟩ h272
   have hk274' : Blk w273 N11 91 #[.int .i64 0, .slice none 0 0, .int .u64 0] := hk274; clear hk274
   have hz277 := hg276.size
   refine pk0 (v := .slice none 0 0) h272 rfl fun a278 h278 => ?_; clear h272
   refine pk0 (v := .int .i64 7) h278 rfl fun a279 h279 => ?_; clear h278
   refine pl_nil ?_
   refine co_then ?_
   refine wp_ret ?_
   refine co_thenR ?_
   refine co_retC2 (Q := fun _ _ _ => True) h279 rfl rfl rfl rfl hk274' Try.underlying91 rfl (by kernel_rfl) ?_
   have hB280 := hb_at hB53 hg276 (by omega)
   have hE : 7 = nextE ep ms lg gn js := nextE_2 (by omega) (by omega)
   have hX := next_err (fl := fl) (last := last) (show ¬ nextE ep ms lg gn js = 0 by rw [← hE]; omega)
   exact ⟨.slice none 0 0, .slice none 0 0, by rw [hX.2.1, hX.2.2.1, ← hE], by rw [hX.1]; exact row_nilL _ _ _ _ _, by rw [hX.2.2.2]; exact row_nilL _ _ _ _ _, hB280⟩
 ·
  rw [hc30] at h29
  have hp281 : chkC ep ms ≠ 0 := by first | simpa using hc30 | simpa [and_assoc] using hc30
  clear hc30
  refine co_true h29 rfl ?_
  refine co_seq ?_
  refine co_reg ?_
  refine pk0 (v := .agg #[.int .i64 0, .slice none 0 0, .int .u64 0]) h29 rfl fun a282 h282 => ?_; clear h29
  refine pk0 (v := .int .i64 (chkC ep ms)) h282 rfl fun a283 h283 => ?_; clear h282
  have hk289 := hk13.below hb25
  refine pwD h283 rfl (op_storeN rfl rfl rfl (all_cons rfl (all_cons rfl (all_cons rfl all_nil))) (by kernel_rfl) hk289 rfl) ?_; clear h283
  rintro _ w285 a284 ⟨hk286, hz287, hg288⟩ h284
  have hk286' : Blk w285 N11 91 #[.int .i64 0, .slice none 0 0, .int .u64 0] := hk286; clear hk286
  have hz290 := hg288.size
  refine pk0 (v := .slice none 0 0) h284 rfl fun a291 h291 => ?_; clear h284
  refine pk0 (v := .int .i64 (chkC ep ms)) h291 rfl fun a292 h292 => ?_; clear h291
  refine pl_nil ?_
  refine co_then ?_
  refine wp_ret ?_
  refine co_thenR ?_
  refine co_retC2 (Q := fun _ _ _ => True) h292 rfl rfl rfl rfl hk286' Try.underlying91 rfl (by kernel_rfl) ?_
  have hB293 := hb_at hB31 hg288 (by omega)
  have hE : chkC ep ms = nextE ep ms lg gn js := nextE_1 (by omega)
  have hX := next_err (fl := fl) (last := last) (show ¬ nextE ep ms lg gn js = 0 by rw [← hE]; omega)
  exact ⟨.slice none 0 0, .slice none 0 0, by rw [hX.2.1, hX.2.2.1, ← hE], by rw [hX.1]; exact row_nilL _ _ _ _ _, by rw [hX.2.2.2]; exact row_nilL _ _ _ _ _, hB293⟩
end Go.Proofs.Ytcnahhobppnbbaa
