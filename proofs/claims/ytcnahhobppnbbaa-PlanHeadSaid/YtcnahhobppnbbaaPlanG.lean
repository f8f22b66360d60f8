/- catenalaw27: PlanPlays, PlanAgain. Conditions: none. -/
import Derived.Test.YtcnahhobppnbbaaPlanF
namespace Go.Proofs.Ytcnahhobppnbbaa
open Go.RowKit Go.PlainAid
set_option linter.unusedVariables false


theorem selAB {lg gn : List Int} {m : MemT} (h : selA lg gn m = true) : inL lg m.1 = true ∧ inL gn m.1 = false := by
  unfold selA at h; simp only [Bool.and_eq_true, Bool.not_eq_true'] at h; exact ⟨h.2, h.1⟩
theorem selBB {lg gn : List Int} {m : MemT} (h : selB lg gn m = true) : inL lg m.1 = false ∧ inL gn m.1 = false := by
  unfold selB at h; simp only [Bool.and_eq_true, Bool.not_eq_true'] at h; exact ⟨h.2, h.1⟩
theorem stay_nodup {ms : List MemT} {lg gn : List Int} (h : (ms.map (·.1)).Nodup) : ((stayL ms lg gn).map (·.1)).Nodup := by
  unfold stayL
  rw [List.map_append, List.nodup_append]
  refine ⟨(List.filter_sublist.map _).nodup h, (List.filter_sublist.map _).nodup h, fun a ha b hb e => ?_⟩
  obtain ⟨x, hx, rfl⟩ := List.mem_map.1 ha
  obtain ⟨y, hy, rfl⟩ := List.mem_map.1 hb
  have h1 := (selAB (List.mem_filter.1 hx).2).1
  have h2 := (selBB (List.mem_filter.1 hy).2).1
  rw [e, h2] at h1; cases h1
theorem plan_nodup {ep : Int} {ms : List MemT} {lg gn : List Int} {js : List MemT} (h : chkC ep ms = 0) : ((planL ms lg gn js).map (·.1)).Nodup := join_nodup (stay_nodup (chkC_iff.1 h).2.2.2)
theorem plan_good {ep : Int} {ms : List MemT} {lg gn : List Int} {js : List MemT} (h : chkC ep ms = 0) : ∀ m ∈ planL ms lg gn js, ¬ badId m ∧ ¬ badSer m := by
  intro m hm
  rcases mem_plan hm with (k | k) | k
  · exact (chkC_iff.1 h).2.2.1 m (List.mem_filter.1 k).1
  · exact (chkC_iff.1 h).2.2.1 m (List.mem_filter.1 k).1
  · exact may_iff.1 k.2
section
variable {ep : Int} {ms : List MemT} {fl : Int} {lg gn : List Int} {js : List MemT} {last : Int}
theorem chk_plan (h : nextE ep ms lg gn js = 0) : chkC (ep + 1) (planL ms lg gn js) = 0 := by
  obtain ⟨h1, h2, _, h4⟩ := nextE_of0 h
  have hc := chkC_iff.1 h1
  have hg := plan_ge ms lg gn js
  have hl := plan_le4 (lg := lg) (gn := gn) (js := js) hc.2.1.2
  exact chkC_iff.2 ⟨by omega, ⟨by omega, hl⟩, plan_good h1, plan_nodup h1⟩
theorem head_chk (h : nextE ep ms lg gn js = 0) : chkC (nextEp ep ms lg gn js) (nextM ep ms lg gn js) = 0 := by
  obtain ⟨h1, h2, _⟩ := next_ok (fl := 0) (last := 0) h.symm
  rw [h1, h2]; exact chk_plan h
theorem nextM_ok (h : ∀ z ∈ ms, memOk z) (h2 : ∀ z ∈ js, memOk z) : ∀ z ∈ nextM ep ms lg gn js, memOk z := by
  unfold nextM
  split
  · exact plan_ok h h2
  · intro z hz; cases hz
theorem nextEp_bd : 0 ≤ nextEp ep ms lg gn js ∧ nextEp ep ms lg gn js ≤ 1073741824 := by
  unfold nextEp
  split
  · rename_i h
    have := (chkC_iff.1 (chk_plan h)).1
    omega
  · omega
theorem nextFl_bd (hf : 0 ≤ fl ∧ fl < 18446744073709551616) (hl : 0 ≤ last ∧ last < 18446744073709551616) : 0 ≤ nextFl ep ms fl lg gn js last ∧ nextFl ep ms fl lg gn js last < 18446744073709551616 := by
  unfold nextFl
  split
  · exact (floorP_bd hf hl).1
  · omega
theorem next_ep (h : nextE ep ms lg gn js = 0) : nextEp ep ms lg gn js = ep + 1 := (next_ok (fl := 0) (last := 0) h.symm).2.1
theorem next_fl (h : nextE ep ms lg gn js = 0) (hf : 0 ≤ fl ∧ fl < 18446744073709551616) (hl : 0 ≤ last ∧ last < 18446744073709551616) : ¬ nextFl ep ms fl lg gn js last < fl := by
  have := (next_ok (fl := fl) (last := last) h.symm).2.2.1
  have h2 := (floorP_bd hf hl).2
  omega
theorem next_epb (h : nextE ep ms lg gn js = 0) : 1 ≤ ep ∧ ep < 1073741824 := by
  obtain ⟨h1, _, _, h4⟩ := nextE_of0 h
  have := (chkC_iff.1 h1).1; omega
theorem nextT_len (h : nextE ep ms lg gn js = 0) : 0 < (nextT ep ms lg gn js).length := by
  obtain ⟨h1, h2, _⟩ := nextE_of0 h
  rw [(next_ok (fl := 0) (last := 0) h.symm).2.2.2, trust_len (keep_good h1)]; omega
theorem next_no (h : ¬ nextE ep ms lg gn js = 0) : nextT ep ms lg gn js = [] ∧ nextM ep ms lg gn js = [] := by
  have := next_err (fl := 0) (last := 0) h; exact ⟨this.2.2.2, this.1⟩
def headI (l : List MemT) : Int := match l with | [] => -1 | m :: _ => m.1
theorem headI_0 {l : List MemT} (h : (0 : Int) ≥ (l.length : Nat)) : -1 = headI l := by
  obtain rfl : l = [] := List.eq_nil_of_length_eq_zero (by omega)
  rfl
theorem headI_y {l : List MemT} {y : MemT} (h : l[0]? = some y) : y.1 = headI l := by
  cases l with
  | nil => simp at h
  | cons m r => simp at h; subst h; rfl
theorem trust_in (h : chkC ep ms = 0) {x : Int} : inL (trustL (keepL ms lg gn)) x = true ↔ ∃ m ∈ keepL ms lg gn, m.1 = x := inL_mem.trans (trust_mem (keep_good h))
theorem head_in (h : nextE ep ms lg gn js = 0) : inL (nextT ep ms lg gn js) (headI (nextM ep ms lg gn js)) = true := by
  obtain ⟨h1, h2, _⟩ := nextE_of0 h
  obtain ⟨e1, _, _, e2⟩ := next_ok (fl := 0) (last := 0) h.symm
  rw [e1, e2, trust_in h1]
  obtain ⟨r, hr⟩ := plan_pre ms lg gn js
  cases hk : keepL ms lg gn with
  | nil => rw [hk] at h2; simp at h2
  | cons m q => exact ⟨m, by simp, by rw [hr, hk]; rfl⟩
def plB (ms : List MemT) (m : MemT) : Bool := ms.any fun o => o == m
theorem plB_mem {m : MemT} : plB ms m = true ↔ m ∈ ms := by
  unfold plB; rw [List.any_eq_true]
  exact ⟨fun ⟨x, hx, e⟩ => by have := eq_of_beq e; subst this; exact hx, fun h => ⟨m, h, by simp⟩⟩
theorem plan_uniq (h : chkC ep ms = 0) {a b : MemT} (ha : a ∈ planL ms lg gn js) (hb : b ∈ planL ms lg gn js) (e : a.1 = b.1) : a = b := by
  have hn := plan_nodup (lg := lg) (gn := gn) (js := js) h
  obtain ⟨i, hi, rfl⟩ := List.getElem_of_mem ha
  obtain ⟨j, hj, rfl⟩ := List.getElem_of_mem hb
  have hP := List.pairwise_iff_getElem.1 hn
  have : i = j := by
    rcases Nat.lt_trichotomy i j with q | q | q
    · exact absurd (by rw [List.getElem_map, List.getElem_map]; exact e) (hP i j (by simpa using hi) (by simpa using hj) q)
    · exact q
    · exact absurd (by rw [List.getElem_map, List.getElem_map]; exact e.symm) (hP j i (by simpa using hj) (by simpa using hi) q)
  subst this; rfl
theorem keep_sub {m : MemT} (hm : m ∈ keepL ms lg gn) : m ∈ planL ms lg gn js := by
  obtain ⟨r, hr⟩ := plan_pre ms lg gn js; rw [hr]; exact List.mem_append_left _ hm
theorem head_mem (h : nextE ep ms lg gn js = 0) {i : Nat} {y : MemT} (hy : (nextM ep ms lg gn js)[i]? = some y) : (inL (nextT ep ms lg gn js) y.1 = true → plB ms y = true ∧ inL lg y.1 = true ∧ inL gn y.1 = false) ∧ (js.any (fun o => o == y) = false → plB ms y = true ∧ inL gn y.1 = false) := by
  obtain ⟨h1, h2, _⟩ := nextE_of0 h
  obtain ⟨e1, _, _, e2⟩ := next_ok (fl := 0) (last := 0) h.symm
  have hm := List.mem_of_getElem? hy
  rw [e1] at hm
  rw [e2]
  constructor
  · intro ht
    obtain ⟨m, hk, e⟩ := (trust_in h1).1 ht
    have := plan_uniq (js := js) h1 (keep_sub hk) hm e
    subst this
    have hf := List.mem_filter.1 hk
    exact ⟨plB_mem.2 hf.1, (selAB hf.2).1, (selAB hf.2).2⟩
  · intro hj
    rcases mem_plan hm with (k | k) | k
    · have hf := List.mem_filter.1 k; exact ⟨plB_mem.2 hf.1, (selAB hf.2).2⟩
    · have hf := List.mem_filter.1 k; exact ⟨plB_mem.2 hf.1, (selBB hf.2).2⟩
    · have : js.any (fun o => o == y) = true := List.any_eq_true.2 ⟨y, k.1, by simp⟩
      rw [this] at hj; cases hj
theorem rise_at (h : nextE ep ms lg gn js = 0) {i j : Nat} {a b : Int} (ha : (nextT ep ms lg gn js)[i]? = some a) (hb : (nextT ep ms lg gn js)[j]? = some b) (hij : i < j) : a < b := by
  obtain ⟨h1, h2, _⟩ := nextE_of0 h
  obtain ⟨e1, _, _, e2⟩ := next_ok (fl := 0) (last := 0) h.symm
  rw [e2] at ha hb
  have hu := trust_up (keepL ms lg gn)
  have hn : (trustL (keepL ms lg gn)).Nodup := (trust_perm (keep_good h1)).symm.nodup ((List.filter_sublist.map _).nodup (chkC_iff.1 h1).2.2.2)
  obtain ⟨hi, rfl⟩ := List.getElem?_eq_some_iff.1 ha
  obtain ⟨hj, rfl⟩ := List.getElem?_eq_some_iff.1 hb
  have k1 := (List.pairwise_iff_getElem.1 hu) i j hi hj hij
  have k2 := (List.pairwise_iff_getElem.1 hn) i j hi hj hij
  omega
theorem again_20 (h : nextE ep ms lg gn js = 0) : nextE (nextEp ep ms lg gn js) (nextM ep ms lg gn js) (nextT ep ms lg gn js) [] [] = 20 := by
  have hc := head_chk h
  obtain ⟨h1, h2, _⟩ := nextE_of0 h
  obtain ⟨e1, _, _, e2⟩ := next_ok (fl := 0) (last := 0) h.symm
  obtain ⟨r, hr⟩ := plan_pre ms lg gn js
  have hn := plan_nodup (lg := lg) (gn := gn) (js := js) h1
  rw [hr, List.map_append, List.nodup_append] at hn
  have hA : ∀ m ∈ keepL ms lg gn, inL (trustL (keepL ms lg gn)) m.1 = true := fun m hm => (trust_in h1).2 ⟨m, hm, rfl⟩
  have hB : ∀ m ∈ r, inL (trustL (keepL ms lg gn)) m.1 = false := by
    intro m hm
    rw [Bool.eq_false_iff]; intro ht
    obtain ⟨o, ho, e⟩ := (trust_in h1).1 ht
    exact hn.2.2 _ (List.mem_map.2 ⟨o, ho, rfl⟩) _ (List.mem_map.2 ⟨m, hm, rfl⟩) e
  have k0 : ∀ x, inL [] x = false := fun x => rfl
  have f1 : keepL (keepL ms lg gn ++ r) (trustL (keepL ms lg gn)) [] = keepL ms lg gn := by
    show (keepL ms lg gn ++ r).filter (selA (trustL (keepL ms lg gn)) []) = _
    rw [List.filter_append, List.filter_eq_self.2 (fun m hm => by unfold selA; rw [hA m hm]; rfl), List.filter_eq_nil_iff.2 (fun m hm => by unfold selA; rw [hB m hm]; simp), List.append_nil]
  have f2 : restL (keepL ms lg gn ++ r) (trustL (keepL ms lg gn)) [] = r := by
    show (keepL ms lg gn ++ r).filter (selB (trustL (keepL ms lg gn)) []) = _
    rw [List.filter_append, List.filter_eq_nil_iff.2 (fun m hm => by unfold selB; rw [hA m hm]; simp), List.filter_eq_self.2 (fun m hm => by unfold selB; rw [hB m hm]; rfl), List.nil_append]
  rw [e1] at hc
  rw [e1, e2, hr]
  rw [hr] at hc
  refine (nextE_3 hc ?_ ?_).symm
  · rw [f1]; exact h2
  · unfold planL stayL; rw [f1, f2]; rfl
theorem again_fl (h : nextE ep ms lg gn js = 0) : floorP (nextFl ep ms fl lg gn js last) last = nextFl ep ms fl lg gn js last := by
  rw [(next_ok (fl := fl) (last := last) h.symm).2.2.1]
  unfold floorP
  by_cases q : last = 18446744073709551615
  · rw [if_pos q, if_pos q]
  · rw [if_neg q, if_neg q]
    by_cases q2 : fl < last + 1
    · rw [if_pos q2, if_neg (by omega)]
    · rw [if_neg q2, if_neg q2]
end
def longB (a b c d : Nat) : Bool := decide (20 < a) || decide (20 < b) || decide (20 < c) || decide (20 < d)
theorem long_t {a b c d : Nat} (h : 20 < a ∨ 20 < b ∨ 20 < c) : true = longB a b c d := by
  unfold longB
  rcases h with h | h | h <;> simp [h]
theorem long_d {a b c d : Nat} (h1 : ¬ 20 < a) (h2 : ¬ 20 < b) (h3 : ¬ 20 < c) : decide (((d : Nat) : Int) > 20) = longB a b c d := by
  unfold longB; rw [decide_eq_false h1, decide_eq_false h2, decide_eq_false h3, Bool.eq_iff_iff]; simp; omega
theorem long_no {a b c d : Nat} (h : longB a b c d = false) : a ≤ 20 ∧ b ≤ 20 ∧ c ≤ 20 ∧ d ≤ 20 := by
  unfold longB at h; simp only [Bool.or_eq_false_iff, decide_eq_false_iff_not] at h; omega
theorem any_t {l : List MemT} {k : Nat} {f : MemT → Bool} (h : (l.take k).any f = true) : true = (l.take (k + 1)).any f := by
  obtain ⟨x, hx, hf⟩ := List.any_eq_true.1 h
  exact (List.any_eq_true.2 ⟨x, (List.take_sublist_take_left (Nat.le_succ k)).mem hx, hf⟩).symm
theorem any_f {l : List MemT} {k : Nat} {y : MemT} {f : MemT → Bool} (h : (l.take k).any f = false) (hy : l[k]? = some y) : f y = (l.take (k + 1)).any f := by
  rw [takeP_at hy, List.any_append, h]; simp
theorem pl_at {l : List MemT} {i : Nat} {m y : MemT} (h : l[i]? = some y) (e : (y == m) = true) : true = plB l m := by
  have := eq_of_beq e; subst this; exact (plB_mem.2 (List.mem_of_getElem? h)).symm
theorem pl_end {l : List MemT} {i : Nat} {m : MemT} (hb : ∀ j, j < i → ∀ z, l[j]? = some z → (z == m) = false) (hi : l.length ≤ i) : false = plB l m := by
  symm; rw [Bool.eq_false_iff]; intro h
  obtain ⟨j, hj, e⟩ := List.getElem_of_mem (plB_mem.1 h)
  have := hb j (by omega) _ (List.getElem?_eq_getElem hj)
  rw [e] at this; simp at this
theorem pl_next {l : List MemT} {i : Nat} {m y : MemT} (hb : ∀ j, j < i → ∀ z, l[j]? = some z → (z == m) = false) (h : l[i]? = some y) (e : (y == m) = false) : ∀ j, j < i + 1 → ∀ z, l[j]? = some z → (z == m) = false := by
  intro j hj z hz
  by_cases q : j = i
  · subst q; rw [h] at hz; cases hz; exact e
  · exact hb j (by omega) z hz
theorem no1 {P : Prop} {p a b c : Bool} {j : Int} (hM : (p = true → a = true ∧ b = true ∧ c = false) ∧ P) (h1 : p = true) (hq : decide (j ≥ 0) = a) (hj : ¬ j ≥ 0) : False := by
  have := (hM.1 h1).1; rw [← hq] at this; exact hj (of_decide_eq_true this)
theorem no2 {P : Prop} {p a b c : Bool} (hM : (p = true → a = true ∧ b = true ∧ c = false) ∧ P) (h1 : p = true) (hb : b = false) : False := by
  have := (hM.1 h1).2.1; rw [hb] at this; cases this
theorem no3 {P : Prop} {p a b c : Bool} (hM : (p = true → a = true ∧ b = true ∧ c = false) ∧ P) (h1 : p = true) (hc : c = true) : False := by
  have := (hM.1 h1).2.2; rw [hc] at this; cases this
theorem no4 {P : Prop} {p a c : Bool} {j : Int} (hM : P ∧ (p = false → a = true ∧ c = false)) (h1 : p = false) (hq : decide (j ≥ 0) = a) (hj : ¬ j ≥ 0) : False := by
  have := (hM.2 h1).1; rw [← hq] at this; exact hj (of_decide_eq_true this)
theorem no5 {P : Prop} {p a c : Bool} (hM : P ∧ (p = false → a = true ∧ c = false)) (h1 : p = false) (hc : c = true) : False := by
  have := (hM.2 h1).2; rw [hc] at this; cases this

set_option maxRecDepth 100000 in
theorem long_any (ep : Int) (mv : Value) (ms : List MemT) (fl : Int) (lv : Value) (lg : List Int) (gv : Value) (gn : List Int) (jv : Value) (js : List MemT) (w : World) (hs : SliceOf memE 2 w mv ms) (hlg : SliceOf (intE .i64) 1 w lv lg) (hgn : SliceOf (intE .i64) 1 w gv gn) (hjs : SliceOf memE 2 w jv js) :
    Calls Try.prog 61 #[.agg #[.int .i64 ep, mv, .int .u64 fl], lv, gv, jv] w fun e w' => e = .returned (.bool (longB ms.length lg.length gn.length js.length)) ∧ Below w.heap.size w w' := by
 have hB0 := Below.refl w.heap.size w
 have hl_hs := sl_len hs
 have hl_hlg := sl_len hlg
 have hl_hgn := sl_len hgn
 have hl_hjs := sl_len hjs
 refine co_enter (n := 28) Try.func61 rfl rfl rfl [(0, .agg #[.int .i64 ep, mv, .int .u64 fl]), (1, lv), (2, gv), (3, jv)] rfl (fun a h0 => ?_)
 refine co_seq ?_
 refine co_reg ?_
 refine pw h0 rfl (op_new (v := fun N => pt N 0) (T := 91) (cs := #[.int .i64 ep, mv, .int .u64 fl]) (by kernel_rfl) (by kernel_rfl) (by kernel_rfl)) ?_; clear h0
 rintro _ w2 a1 ⟨N3, rfl, hN6, hz7, hk5, hg4⟩ h1
 have hz8 := hg4.size
 try dsimp only at h1
 refine pk0 (v := .bool false) h1 rfl fun a9 h9 => ?_; clear h1
 refine pl_nil ?_
 refine co_then ?_
 refine co_seq ?_
 refine co_reg ?_
 refine pk0 (v := pt N3 1) h9 rfl fun a10 h10 => ?_; clear h9
 refine pk (v := mv) h10 rfl (rn_load1 rfl rfl Try.isAgg89 (hk5.cell rfl)) fun a11 h11 => ?_; clear h10
 have hB12 := hb_new hB0 hg4
 refine pk (v := .int .i64 ((ms.length : Nat) : Int)) h11 rfl (rn_len rfl rfl Try.underlying89 (hs.below hB12)) fun a13 h13 => ?_; clear h11
 refine pk0 (v := .bool (decide (((ms.length : Nat) : Int) > 20))) h13 rfl fun a14 h14 => ?_; clear h13
 refine pk0 (v := .bool (decide (((ms.length : Nat) : Int) > 20))) h14 rfl fun a15 h15 => ?_; clear h14
 cases hc16 : (decide (((ms.length : Nat) : Int) > 20))
 ·
  rw [hc16] at h15
  have hp17 : ¬ (((ms.length : Nat) : Int) > 20) := of_decide_eq_false hc16
  clear hc16
  refine pk0 (v := lv) h15 rfl fun a18 h18 => ?_; clear h15
  refine pk (v := .int .i64 ((lg.length : Nat) : Int)) h18 rfl (rn_len rfl rfl Try.underlying37 (hlg.below hB12)) fun a19 h19 => ?_; clear h18
  refine pk0 (v := .bool (decide (((lg.length : Nat) : Int) > 20))) h19 rfl fun a20 h20 => ?_; clear h19
  refine pk0 (v := .bool (decide (((lg.length : Nat) : Int) > 20))) h20 rfl fun a21 h21 => ?_; clear h20
  refine pk0 (v := .bool (decide (((lg.length : Nat) : Int) > 20))) h21 rfl fun a22 h22 => ?_; clear h21
  cases hc23 : (decide (((lg.length : Nat) : Int) > 20))
  ·
   rw [hc23] at h22
   have hp24 : ¬ (((lg.length : Nat) : Int) > 20) := of_decide_eq_false hc23
   clear hc23
   refine pk0 (v := gv) h22 rfl fun a25 h25 => ?_; clear h22
   refine pk (v := .int .i64 ((gn.length : Nat) : Int)) h25 rfl (rn_len rfl rfl Try.underlying37 (hgn.below hB12)) fun a26 h26 => ?_; clear h25
   refine pk0 (v := .bool (decide (((gn.length : Nat) : Int) > 20))) h26 rfl fun a27 h27 => ?_; clear h26
   refine pk0 (v := .bool (decide (((gn.length : Nat) : Int) > 20))) h27 rfl fun a28 h28 => ?_; clear h27
   refine pk0 (v := .bool (decide (((gn.length : Nat) : Int) > 20))) h28 rfl fun a29 h29 => ?_; clear h28
   cases hc30 : (decide (((gn.length : Nat) : Int) > 20))
   ·
    rw [hc30] at h29
    have hp31 : ¬ (((gn.length : Nat) : Int) > 20) := of_decide_eq_false hc30
    clear hc30
    refine pk0 (v := jv) h29 rfl fun a32 h32 => ?_; clear h29
    refine pk (v := .int .i64 ((js.length : Nat) : Int)) h32 rfl (rn_len rfl rfl Try.underlying89 (hjs.below hB12)) fun a33 h33 => ?_; clear h32
    refine pk0 (v := .bool (decide (((js.length : Nat) : Int) > 20))) h33 rfl fun a34 h34 => ?_; clear h33
    refine pk0 (v := .bool (decide (((js.length : Nat) : Int) > 20))) h34 rfl fun a35 h35 => ?_; clear h34
    refine pk0 (v := .bool (decide (((js.length : Nat) : Int) > 20))) h35 rfl fun a36 h36 => ?_; clear h35
    refine pl_nil ?_
    refine co_then ?_
    refine wp_ret ?_
    refine co_ret1 h36 rfl rfl ?_
    exact ⟨ret_bool (by first | exact long_t (by omega) | exact long_d (by omega) (by omega) (by omega)), hB12⟩
   ·
    rw [hc30] at h29
    have hp37 : ((gn.length : Nat) : Int) > 20 := of_decide_eq_true hc30
    clear hc30
    refine psk h29 rfl fun a38 h38 => ?_; clear h29
    refine psk h38 rfl fun a39 h39 => ?_; clear h38
    refine psk h39 rfl fun a40 h40 => ?_; clear h39
    refine pk0 (v := .bool true) h40 rfl fun a41 h41 => ?_; clear h40
    refine pk0 (v := .bool true) h41 rfl fun a42 h42 => ?_; clear h41
    refine pl_nil ?_
    refine co_then ?_
    refine wp_ret ?_
    refine co_ret1 h42 rfl rfl ?_
    exact ⟨ret_bool (by first | exact long_t (by omega) | exact long_d (by omega) (by omega) (by omega)), hB12⟩
  ·
   rw [hc23] at h22
   have hp43 : ((lg.length : Nat) : Int) > 20 := of_decide_eq_true hc23
   clear hc23
   refine psk h22 rfl fun a44 h44 => ?_; clear h22
   refine psk h44 rfl fun a45 h45 => ?_; clear h44
   refine psk h45 rfl fun a46 h46 => ?_; clear h45
   refine pk0 (v := .bool true) h46 rfl fun a47 h47 => ?_; clear h46
   refine pk0 (v := .bool true) h47 rfl fun a48 h48 => ?_; clear h47
   refine psk h48 rfl fun a49 h49 => ?_; clear h48
   refine psk h49 rfl fun a50 h50 => ?_; clear h49
   refine psk h50 rfl fun a51 h51 => ?_; clear h50
   refine pk0 (v := .bool true) h51 rfl fun a52 h52 => ?_; clear h51
   refine pk0 (v := .bool true) h52 rfl fun a53 h53 => ?_; clear h52
   refine pl_nil ?_
   refine co_then ?_
   refine wp_ret ?_
   refine co_ret1 h53 rfl rfl ?_
   exact ⟨ret_bool (by first | exact long_t (by omega) | exact long_d (by omega) (by omega) (by omega)), hB12⟩
 ·
  rw [hc16] at h15
  have hp54 : ((ms.length : Nat) : Int) > 20 := of_decide_eq_true hc16
  clear hc16
  refine psk h15 rfl fun a55 h55 => ?_; clear h15
  refine psk h55 rfl fun a56 h56 => ?_; clear h55
  refine psk h56 rfl fun a57 h57 => ?_; clear h56
  refine pk0 (v := .bool true) h57 rfl fun a58 h58 => ?_; clear h57
  refine pk0 (v := .bool true) h58 rfl fun a59 h59 => ?_; clear h58
  refine psk h59 rfl fun a60 h60 => ?_; clear h59
  refine psk h60 rfl fun a61 h61 => ?_; clear h60
  refine psk h61 rfl fun a62 h62 => ?_; clear h61
  refine pk0 (v := .bool true) h62 rfl fun a63 h63 => ?_; clear h62
  refine pk0 (v := .bool true) h63 rfl fun a64 h64 => ?_; clear h63
  refine psk h64 rfl fun a65 h65 => ?_; clear h64
  refine psk h65 rfl fun a66 h66 => ?_; clear h65
  refine psk h66 rfl fun a67 h67 => ?_; clear h66
  refine pk0 (v := .bool true) h67 rfl fun a68 h68 => ?_; clear h67
  refine pk0 (v := .bool true) h68 rfl fun a69 h69 => ?_; clear h68
  refine pl_nil ?_
  refine co_then ?_
  refine wp_ret ?_
  refine co_ret1 h69 rfl rfl ?_
  exact ⟨ret_bool (by first | exact long_t (by omega) | exact long_d (by omega) (by omega) (by omega)), hB12⟩
set_option maxRecDepth 100000 in
theorem awake27  (w : World)  :
    Calls Try.prog 62 #[] w fun e w' => e = .returned (.bool true) ∧ Below w.heap.size w w' := by
 have hB0 := Below.refl w.heap.size w
 refine co_enter (n := 65) Try.func62 rfl rfl rfl [] rfl (fun a h0 => ?_)
 refine co_seq ?_
 refine co_reg ?_
 refine pk0 (v := .bool false) h0 rfl fun a1 h1 => ?_; clear h0
 refine pl_nil ?_
 refine co_then ?_
 refine co_seq ?_
 refine co_reg ?_
 refine pk0 (v := .agg #[.int .i64 0, .int .i64 1]) h1 rfl fun a2 h2 => ?_; clear h1
 refine pk0 (v := .agg #[.int .i64 1, .int .i64 1]) h2 rfl fun a3 h3 => ?_; clear h2
 refine pk0 (v := .agg #[.int .i64 2, .int .i64 1]) h3 rfl fun a4 h4 => ?_; clear h3
 refine pw h4 rfl (op_new (v := fun N => .slice (some ⟨N, 0, none⟩) 3 3) (T := 114) (cs := #[.int .i64 0, .int .i64 1, .int .i64 1, .int .i64 1, .int .i64 2, .int .i64 1]) (by kernel_rfl) (by kernel_rfl) (by kernel_rfl)) ?_; clear h4
 rintro _ w6 a5 ⟨N7, rfl, hN10, hz11, hk9, hg8⟩ h5
 have hz12 := hg8.size
 try dsimp only at h5
 refine pk0 (v := .agg #[.int .i64 1, .slice (some ⟨N7, 0, none⟩) 3 3, .int .u64 0]) h5 rfl fun a13 h13 => ?_; clear h5
 refine pw h13 rfl (op_new (v := fun N => pt N 0) (T := 91) (cs := #[.int .i64 0, .slice none 0 0, .int .u64 0]) (by kernel_rfl) (by kernel_rfl) (by kernel_rfl)) ?_; clear h13
 rintro _ w15 a14 ⟨N16, rfl, hN19, hz20, hk18, hg17⟩ h14
 have hz21 := hg17.size
 try dsimp only at h14
 refine pwD h14 rfl (op_storeN rfl rfl rfl (by kernel_rfl) (by kernel_rfl) hk18 rfl) ?_; clear h14
 rintro _ w23 a22 ⟨hk24, hz25, hg26⟩ h22
 have hk24' : Blk w23 N16 91 #[.int .i64 1, .slice (some ⟨N7, 0, none⟩) 3 3, .int .u64 0] := hk24; clear hk24
 have hz27 := hg26.size
 refine pl_nil ?_
 refine co_then ?_
 refine co_seq ?_
 refine co_reg ?_
 refine pk (v := .agg #[.int .i64 1, .slice (some ⟨N7, 0, none⟩) 3 3, .int .u64 0]) h22 rfl (rn_loadN rfl rfl Try.underlying91 rfl (by kernel_rfl) hk24'.all) fun a28 h28 => ?_; clear h22
 refine pw h28 rfl (op_new (v := fun N => .slice (some ⟨N, 0, none⟩) 2 2) (T := 3) (cs := #[.int .i64 1, .int .i64 2]) (by kernel_rfl) (by kernel_rfl) (by kernel_rfl)) ?_; clear h28
 rintro _ w30 a29 ⟨N31, rfl, hN34, hz35, hk33, hg32⟩ h29
 have hz36 := hg32.size
 try dsimp only at h29
 refine pw h29 rfl (op_new (v := fun N => .slice (some ⟨N, 0, none⟩) 1 1) (T := 3) (cs := #[.int .i64 1]) (by kernel_rfl) (by kernel_rfl) (by kernel_rfl)) ?_; clear h29
 rintro _ w38 a37 ⟨N39, rfl, hN42, hz43, hk41, hg40⟩ h37
 have hz44 := hg40.size
 try dsimp only at h37
 refine pk0 (v := .agg #[.int .i64 3, .int .i64 4]) h37 rfl fun a45 h45 => ?_; clear h37
 refine pw h45 rfl (op_new (v := fun N => .slice (some ⟨N, 0, none⟩) 1 1) (T := 114) (cs := #[.int .i64 3, .int .i64 4]) (by kernel_rfl) (by kernel_rfl) (by kernel_rfl)) ?_; clear h45
 rintro _ w47 a46 ⟨N48, rfl, hN51, hz52, hk50, hg49⟩ h46
 have hz53 := hg49.size
 try dsimp only at h46
 have hk57 := hk9.kept hg17 (by simp)
 have hk58 := hk57.kept hg26 (by simp; omega)
 have hk59 := hk58.kept hg32 (by simp)
 have hk60 := hk59.kept hg40 (by simp)
 have hk61 := hk60.kept hg49 (by simp)
 have hr56 := row_of_cells (enc := memE) (sz := 2) ([(0, 1), (1, 1), (2, 1)] : List MemT) hk61 (Nat.le_refl _) rfl rfl (by unfold maxLen; simp)
 have hk63 := hk33.kept hg40 (by simp)
 have hk64 := hk63.kept hg49 (by simp)
 have hr62 := row_of_cells (enc := (intE .i64)) (sz := 1) ([1, 2] : List Int) hk64 (Nat.le_refl _) rfl rfl (by unfold maxLen; simp)
 have hk66 := hk41.kept hg49 (by simp)
 have hr65 := row_of_cells (enc := (intE .i64)) (sz := 1) ([1] : List Int) hk66 (Nat.le_refl _) rfl rfl (by unfold maxLen; simp)
 have hr67 := row_of_cells (enc := memE) (sz := 2) ([(3, 4)] : List MemT) hk50 (Nat.le_refl _) rfl rfl (by unfold maxLen; simp)
 refine pw h46 rfl (op_call (args := #[.agg #[.int .i64 1, .slice (some ⟨N7, 0, none⟩) 3 3, .int .u64 0], .slice (some ⟨N31, 0, none⟩) 2 2, .slice (some ⟨N39, 0, none⟩) 1 1, .slice (some ⟨N48, 0, none⟩) 1 1, .int .u64 9]) (R := fun res xw => ∃ u : Value, ∃ t : Value, res = .tuple #[.agg #[.int .i64 (nextEp 1 ([(0, 1), (1, 1), (2, 1)] : List MemT) ([1, 2] : List Int) ([1] : List Int) ([(3, 4)] : List MemT)), u, .int .u64 (nextFl 1 ([(0, 1), (1, 1), (2, 1)] : List MemT) 0 ([1, 2] : List Int) ([1] : List Int) ([(3, 4)] : List MemT) 9)], t, .int .i64 (nextE 1 ([(0, 1), (1, 1), (2, 1)] : List MemT) ([1, 2] : List Int) ([1] : List Int) ([(3, 4)] : List MemT))] ∧ xw.ownsRow w47.heap.size 114 2 u (nextM 1 ([(0, 1), (1, 1), (2, 1)] : List MemT) ([1, 2] : List Int) ([1] : List Int) ([(3, 4)] : List MemT)).length ((nextM 1 ([(0, 1), (1, 1), (2, 1)] : List MemT) ([1, 2] : List Int) ([1] : List Int) ([(3, 4)] : List MemT)).flatMap memE) ∧ xw.ownsRow w47.heap.size 3 1 t (nextT 1 ([(0, 1), (1, 1), (2, 1)] : List MemT) ([1, 2] : List Int) ([1] : List Int) ([(3, 4)] : List MemT)).length ((nextT 1 ([(0, 1), (1, 1), (2, 1)] : List MemT) ([1, 2] : List Int) ([1] : List Int) ([(3, 4)] : List MemT)).flatMap (intE .i64)) ∧ Below w47.heap.size w47 xw) rfl rfl rfl (by kernel_rfl) (by kernel_rfl) (Try.call63 _ _) (next_any 1 (.slice (some ⟨N7, 0, none⟩) 3 3) ([(0, 1), (1, 1), (2, 1)] : List MemT) 0 (.slice (some ⟨N31, 0, none⟩) 2 2) ([1, 2] : List Int) (.slice (some ⟨N39, 0, none⟩) 1 1) ([1] : List Int) (.slice (some ⟨N48, 0, none⟩) 1 1) ([(3, 4)] : List MemT) 9 w47 (row_sl hr56 memE_len) (by intro z hz; simp at hz; rcases hz with rfl | rfl | rfl <;> (unfold memOk; omega)) (row_sl hr62 (intE_len .i64)) (row_sl hr65 (intE_len .i64)) (row_sl hr67 memE_len) (by intro z hz; simp at hz; subst hz; unfold memOk; omega) (by first | omega | (simp; done) | (simp; omega)) (by first | omega | (simp; done) | (simp; omega)) (by first | omega | (simp; done) | (simp; omega)) (by decide)) (by rintro e x ⟨u, t, rfl, hq70, hq71, hb72⟩; exact ⟨_, rfl, ⟨u, t, rfl, hq70, hq71, hb72⟩⟩)) ?_; clear h46
 rintro _ w55 a54 ⟨u68, t69, rfl, hq70, hq71, hb72⟩ h54
 have hz73 := hb72.size
 have hl74 := sl_len (row_sl hq70 memE_len)
 have hl75 := sl_len (row_sl hq71 (intE_len .i64))
 have hr76 := row_eq (l' := ([(2, 1), (0, 1), (3, 4)] : List MemT)) hq70 (by decide)
 have hr77 := row_eq (l' := ([2] : List Int)) hq71 (by decide)
 refine pk0 (v := .tuple #[.agg #[.int .i64 (nextEp 1 ([(0, 1), (1, 1), (2, 1)] : List MemT) ([1, 2] : List Int) ([1] : List Int) ([(3, 4)] : List MemT)), u68, .int .u64 (nextFl 1 ([(0, 1), (1, 1), (2, 1)] : List MemT) 0 ([1, 2] : List Int) ([1] : List Int) ([(3, 4)] : List MemT) 9)], t69, .int .i64 (nextE 1 ([(0, 1), (1, 1), (2, 1)] : List MemT) ([1, 2] : List Int) ([1] : List Int) ([(3, 4)] : List MemT))]) h54 rfl fun a78 h78 => ?_; clear h54
 refine pk0 (v := .agg #[.int .i64 (nextEp 1 ([(0, 1), (1, 1), (2, 1)] : List MemT) ([1, 2] : List Int) ([1] : List Int) ([(3, 4)] : List MemT)), u68, .int .u64 (nextFl 1 ([(0, 1), (1, 1), (2, 1)] : List MemT) 0 ([1, 2] : List Int) ([1] : List Int) ([(3, 4)] : List MemT) 9)]) h78 rfl fun a79 h79 => ?_; clear h78
 refine pk0 (v := t69) h79 rfl fun a80 h80 => ?_; clear h79
 refine pk0 (v := .int .i64 (nextE 1 ([(0, 1), (1, 1), (2, 1)] : List MemT) ([1, 2] : List Int) ([1] : List Int) ([(3, 4)] : List MemT))) h80 rfl fun a81 h81 => ?_; clear h80
 refine pw h81 rfl (op_new (v := fun N => pt N 0) (T := 91) (cs := #[.int .i64 0, .slice none 0 0, .int .u64 0]) (by kernel_rfl) (by kernel_rfl) (by kernel_rfl)) ?_; clear h81
 rintro _ w83 a82 ⟨N84, rfl, hN87, hz88, hk86, hg85⟩ h82
 have hr90 := row_kept_new hr56 (below_grown hb72)
 have ha89 := row_fresh hr90 hN87
 have hr92 := row_kept_new hr62 (below_grown hb72)
 have ha91 := row_fresh hr92 hN87
 have hr94 := row_kept_new hr65 (below_grown hb72)
 have ha93 := row_fresh hr94 hN87
 have hr96 := row_kept_new hr67 (below_grown hb72)
 have ha95 := row_fresh hr96 hN87
 have ha97 := row_fresh hr76 hN87
 have ha98 := row_fresh hr77 hN87
 have hz99 := hg85.size
 try dsimp only at h82
 have hr105 := row_kept_new hr76 hg85
 refine pwD h82 rfl (op_storeN rfl rfl rfl (all_cons rfl (all_cons (row_one hr105) (all_cons rfl all_nil))) (by kernel_rfl) hk86 rfl) ?_; clear h82
 rintro _ w101 a100 ⟨hk102, hz103, hg104⟩ h100
 have hk102' : Blk w101 N84 91 #[.int .i64 (nextEp 1 ([(0, 1), (1, 1), (2, 1)] : List MemT) ([1, 2] : List Int) ([1] : List Int) ([(3, 4)] : List MemT)), u68, .int .u64 (nextFl 1 ([(0, 1), (1, 1), (2, 1)] : List MemT) 0 ([1, 2] : List Int) ([1] : List Int) ([(3, 4)] : List MemT) 9)] := hk102; clear hk102
 have hz106 := hg104.size
 refine pk0 (v := t69) h100 rfl fun a107 h107 => ?_; clear h100
 refine pk0 (v := .int .i64 (nextE 1 ([(0, 1), (1, 1), (2, 1)] : List MemT) ([1, 2] : List Int) ([1] : List Int) ([(3, 4)] : List MemT))) h107 rfl fun a108 h108 => ?_; clear h107
 refine pl_nil ?_
 refine co_then ?_
 refine co_seq ?_
 refine co_reg ?_
 refine pk0 (v := .int .i64 (nextE 1 ([(0, 1), (1, 1), (2, 1)] : List MemT) ([1, 2] : List Int) ([1] : List Int) ([(3, 4)] : List MemT))) h108 rfl fun a109 h109 => ?_; clear h108
 refine pk0 (v := .bool (nextE 1 ([(0, 1), (1, 1), (2, 1)] : List MemT) ([1, 2] : List Int) ([1] : List Int) ([(3, 4)] : List MemT) == 0)) h109 rfl fun a110 h110 => ?_; clear h109
 refine pk0 (v := .bool (nextE 1 ([(0, 1), (1, 1), (2, 1)] : List MemT) ([1, 2] : List Int) ([1] : List Int) ([(3, 4)] : List MemT) == 0)) h110 rfl fun a111 h111 => ?_; clear h110
 have hc112 : (nextE 1 ([(0, 1), (1, 1), (2, 1)] : List MemT) ([1, 2] : List Int) ([1] : List Int) ([(3, 4)] : List MemT) == 0) = true := by decide
 rw [hc112] at h111; clear hc112
 refine pk0 (v := pt N84 0) h111 rfl fun a113 h113 => ?_; clear h111
 refine pk (v := .int .i64 (nextEp 1 ([(0, 1), (1, 1), (2, 1)] : List MemT) ([1, 2] : List Int) ([1] : List Int) ([(3, 4)] : List MemT))) h113 rfl (rn_load1 rfl rfl Try.isAgg3 (hk102'.cell rfl)) fun a114 h114 => ?_; clear h113
 refine pk0 (v := .bool (nextEp 1 ([(0, 1), (1, 1), (2, 1)] : List MemT) ([1, 2] : List Int) ([1] : List Int) ([(3, 4)] : List MemT) == 2)) h114 rfl fun a115 h115 => ?_; clear h114
 refine pk0 (v := .bool (nextEp 1 ([(0, 1), (1, 1), (2, 1)] : List MemT) ([1, 2] : List Int) ([1] : List Int) ([(3, 4)] : List MemT) == 2)) h115 rfl fun a116 h116 => ?_; clear h115
 refine pk0 (v := .bool (nextEp 1 ([(0, 1), (1, 1), (2, 1)] : List MemT) ([1, 2] : List Int) ([1] : List Int) ([(3, 4)] : List MemT) == 2)) h116 rfl fun a117 h117 => ?_; clear h116
 have hc118 : (nextEp 1 ([(0, 1), (1, 1), (2, 1)] : List MemT) ([1, 2] : List Int) ([1] : List Int) ([(3, 4)] : List MemT) == 2) = true := by decide
 rw [hc118] at h117; clear hc118
 refine pk0 (v := pt N84 1) h117 rfl fun a119 h119 => ?_; clear h117
 refine pk (v := u68) h119 rfl (rn_load1 rfl rfl Try.isAgg89 (hk102'.cell rfl)) fun a120 h120 => ?_; clear h119
 have hr121 := row_kept_at hr105 hg104 (ha97)
 refine pk (v := .int .i64 ((([(2, 1), (0, 1), (3, 4)] : List MemT).length : Nat) : Int)) h120 rfl (rn_lenOwn rfl rfl Try.underlying89 hr121) fun a122 h122 => ?_; clear h120
 refine pk0 (v := .bool (((([(2, 1), (0, 1), (3, 4)] : List MemT).length : Nat) : Int) == 3)) h122 rfl fun a123 h123 => ?_; clear h122
 refine pk0 (v := .bool (((([(2, 1), (0, 1), (3, 4)] : List MemT).length : Nat) : Int) == 3)) h123 rfl fun a124 h124 => ?_; clear h123
 refine pk0 (v := .bool (((([(2, 1), (0, 1), (3, 4)] : List MemT).length : Nat) : Int) == 3)) h124 rfl fun a125 h125 => ?_; clear h124
 have hc126 : (((([(2, 1), (0, 1), (3, 4)] : List MemT).length : Nat) : Int) == 3) = true := by decide
 rw [hc126] at h125; clear hc126
 refine pk0 (v := pt N84 1) h125 rfl fun a127 h127 => ?_; clear h125
 refine pk (v := u68) h127 rfl (rn_load1 rfl rfl Try.isAgg89 (hk102'.cell rfl)) fun a128 h128 => ?_; clear h127
 refine pk (v := pt (blkOf u68) (offOf u68 + 0 * 2)) h128 rfl (rn_index rfl rfl rfl Try.underlying89 Try.sizeOf114 (row_sl hr121 memE_len) (by omega) (by first | omega | (simp; done) | (simp; omega))) fun a129 h129 => ?_; clear h128
 refine pk0 (v := pt (blkOf u68) (offOf u68 + 0 * 2)) h129 rfl fun a130 h130 => ?_; clear h129
 refine pk (v := .int .i64 (((2, 1) : MemT).1)) h130 rfl (rn_load1 rfl rfl Try.isAgg3 ((sl_at (row_sl hr121 memE_len) (show (([(2, 1), (0, 1), (3, 4)] : List MemT))[0]? = some ((2, 1) : MemT) from rfl)) 0 _ rfl)) fun a131 h131 => ?_; clear h130
 refine pk0 (v := .bool (((2, 1) : MemT).1 == 2)) h131 rfl fun a132 h132 => ?_; clear h131
 refine pk0 (v := .bool (((2, 1) : MemT).1 == 2)) h132 rfl fun a133 h133 => ?_; clear h132
 refine pk0 (v := .bool (((2, 1) : MemT).1 == 2)) h133 rfl fun a134 h134 => ?_; clear h133
 have hc135 : (((2, 1) : MemT).1 == 2) = true := by decide
 rw [hc135] at h134; clear hc135
 refine pk0 (v := pt N84 1) h134 rfl fun a136 h136 => ?_; clear h134
 refine pk (v := u68) h136 rfl (rn_load1 rfl rfl Try.isAgg89 (hk102'.cell rfl)) fun a137 h137 => ?_; clear h136
 refine pk (v := pt (blkOf u68) (offOf u68 + 1 * 2)) h137 rfl (rn_index rfl rfl rfl Try.underlying89 Try.sizeOf114 (row_sl hr121 memE_len) (by omega) (by first | omega | (simp; done) | (simp; omega))) fun a138 h138 => ?_; clear h137
 refine pk0 (v := pt (blkOf u68) (offOf u68 + 1 * 2)) h138 rfl fun a139 h139 => ?_; clear h138
 refine pk (v := .int .i64 (((0, 1) : MemT).1)) h139 rfl (rn_load1 rfl rfl Try.isAgg3 ((sl_at (row_sl hr121 memE_len) (show (([(2, 1), (0, 1), (3, 4)] : List MemT))[1]? = some ((0, 1) : MemT) from rfl)) 0 _ rfl)) fun a140 h140 => ?_; clear h139
 refine pk0 (v := .bool (((0, 1) : MemT).1 == 0)) h140 rfl fun a141 h141 => ?_; clear h140
 refine pk0 (v := .bool (((0, 1) : MemT).1 == 0)) h141 rfl fun a142 h142 => ?_; clear h141
 refine pk0 (v := .bool (((0, 1) : MemT).1 == 0)) h142 rfl fun a143 h143 => ?_; clear h142
 have hc144 : (((0, 1) : MemT).1 == 0) = true := by decide
 rw [hc144] at h143; clear hc144
 refine pk0 (v := pt N84 2) h143 rfl fun a145 h145 => ?_; clear h143
 refine pk (v := .int .u64 (nextFl 1 ([(0, 1), (1, 1), (2, 1)] : List MemT) 0 ([1, 2] : List Int) ([1] : List Int) ([(3, 4)] : List MemT) 9)) h145 rfl (rn_load1 rfl rfl Try.isAgg61 (hk102'.cell rfl)) fun a146 h146 => ?_; clear h145
 refine pk0 (v := .bool (nextFl 1 ([(0, 1), (1, 1), (2, 1)] : List MemT) 0 ([1, 2] : List Int) ([1] : List Int) ([(3, 4)] : List MemT) 9 == 10)) h146 rfl fun a147 h147 => ?_; clear h146
 refine pk0 (v := .bool (nextFl 1 ([(0, 1), (1, 1), (2, 1)] : List MemT) 0 ([1, 2] : List Int) ([1] : List Int) ([(3, 4)] : List MemT) 9 == 10)) h147 rfl fun a148 h148 => ?_; clear h147
 refine pk0 (v := .bool (nextFl 1 ([(0, 1), (1, 1), (2, 1)] : List MemT) 0 ([1, 2] : List Int) ([1] : List Int) ([(3, 4)] : List MemT) 9 == 10)) h148 rfl fun a149 h149 => ?_; clear h148
 have hc150 : (nextFl 1 ([(0, 1), (1, 1), (2, 1)] : List MemT) 0 ([1, 2] : List Int) ([1] : List Int) ([(3, 4)] : List MemT) 9 == 10) = true := by decide
 rw [hc150] at h149; clear hc150
 refine pk0 (v := t69) h149 rfl fun a151 h151 => ?_; clear h149
 have hr152 := row_kept_new hr77 hg85
 have hr153 := row_kept_at hr152 hg104 (ha98)
 refine pk (v := .int .i64 ((([2] : List Int).length : Nat) : Int)) h151 rfl (rn_lenOwn rfl rfl Try.underlying37 hr153) fun a154 h154 => ?_; clear h151
 refine pk0 (v := .bool (((([2] : List Int).length : Nat) : Int) == 1)) h154 rfl fun a155 h155 => ?_; clear h154
 refine pk0 (v := .bool (((([2] : List Int).length : Nat) : Int) == 1)) h155 rfl fun a156 h156 => ?_; clear h155
 refine pk0 (v := .bool (((([2] : List Int).length : Nat) : Int) == 1)) h156 rfl fun a157 h157 => ?_; clear h156
 have hc158 : (((([2] : List Int).length : Nat) : Int) == 1) = true := by decide
 rw [hc158] at h157; clear hc158
 refine pk0 (v := t69) h157 rfl fun a159 h159 => ?_; clear h157
 refine pk (v := pt (blkOf t69) (offOf t69 + 0 * 1)) h159 rfl (rn_index rfl rfl rfl Try.underlying37 Try.sizeOf3 (row_sl hr153 (intE_len .i64)) (by omega) (by first | omega | (simp; done) | (simp; omega))) fun a160 h160 => ?_; clear h159
 refine pk (v := .int .i64 2) h160 rfl (rn_load1 rfl rfl Try.isAgg3 ((sl_at (row_sl hr153 (intE_len .i64)) (show (([2] : List Int))[0]? = some (2 : Int) from rfl)) 0 _ rfl)) fun a161 h161 => ?_; clear h160
 refine pk0 (v := .bool ((2 : Int) == 2)) h161 rfl fun a162 h162 => ?_; clear h161
 refine pk0 (v := .bool ((2 : Int) == 2)) h162 rfl fun a163 h163 => ?_; clear h162
 refine pk0 (v := .bool ((2 : Int) == 2)) h163 rfl fun a164 h164 => ?_; clear h163
 refine pl_nil ?_
 refine co_then ?_
 refine wp_ret ?_
 refine co_ret1 h164 rfl rfl ?_
 have hB165 := hb_new hB0 hg8
 have hB166 := hb_new hB165 hg17
 have hB167 := hb_at hB166 hg26 (by omega)
 have hB168 := hb_new hB167 hg32
 have hB169 := hb_new hB168 hg40
 have hB170 := hb_new hB169 hg49
 have hB171 := hb_call hB170 hb72
 have hB172 := hb_new hB171 hg85
 have hB173 := hb_at hB172 hg104 (by omega)
 exact ⟨rfl, hB173⟩
set_option maxRecDepth 100000 in
theorem planPlays_law (ep : Int) (mv : Value) (ms : List MemT) (fl : Int) (lv : Value) (lg : List Int) (gv : Value) (gn : List Int) (jv : Value) (js : List MemT) (last : Int) (w : World) (hs : SliceOf memE 2 w mv ms) (hmk : ∀ z ∈ ms, memOk z) (hlg : SliceOf (intE .i64) 1 w lv lg) (hgn : SliceOf (intE .i64) 1 w gv gn) (hjs : SliceOf memE 2 w jv js) (hjk : ∀ z ∈ js, memOk z) (he : -9223372036854775808 ≤ ep ∧ ep ≤ 9223372036854775807) (hf : 0 ≤ fl ∧ fl < 18446744073709551616) (hla : 0 ≤ last ∧ last < 18446744073709551616) :
    Calls Try.prog 12 #[.agg #[.int .i64 ep, mv, .int .u64 fl], lv, gv, jv, .int .u64 last] w fun e w' => e = .returned (.bool true) ∧ Below w.heap.size w w' := by
 have hB0 := Below.refl w.heap.size w
 have hl_hs := sl_len hs
 have hl_hlg := sl_len hlg
 have hl_hgn := sl_len hgn
 have hl_hjs := sl_len hjs
 refine co_enter (n := 70) Try.func12 rfl rfl rfl [(0, .agg #[.int .i64 ep, mv, .int .u64 fl]), (1, lv), (2, gv), (3, jv), (4, .int .u64 last)] rfl (fun a h0 => ?_)
 refine co_seq ?_
 refine co_reg ?_
 refine pw h0 rfl (op_new (v := fun N => pt N 0) (T := 91) (cs := #[.int .i64 ep, mv, .int .u64 fl]) (by kernel_rfl) (by kernel_rfl) (by kernel_rfl)) ?_; clear h0
 rintro _ w2 a1 ⟨N3, rfl, hN6, hz7, hk5, hg4⟩ h1
 have hz8 := hg4.size
 try dsimp only at h1
 refine pk0 (v := .bool false) h1 rfl fun a9 h9 => ?_; clear h1
 refine pl_nil ?_
 refine co_then ?_
 refine co_seq ?_
 refine co_seq ?_
 refine co_reg ?_
 refine pk (v := .agg #[.int .i64 ep, mv, .int .u64 fl]) h9 rfl (rn_loadN rfl rfl Try.underlying91 rfl (by kernel_rfl) hk5.all) fun a10 h10 => ?_; clear h9
 refine pk0 (v := lv) h10 rfl fun a11 h11 => ?_; clear h10
 refine pk0 (v := gv) h11 rfl fun a12 h12 => ?_; clear h11
 refine pk0 (v := jv) h12 rfl fun a13 h13 => ?_; clear h12
 have hB16 := hb_new hB0 hg4
 refine pw h13 rfl (op_call (args := #[.agg #[.int .i64 ep, mv, .int .u64 fl], lv, gv, jv]) (R := fun res xw => res = .bool (longB ms.length lg.length gn.length js.length) ∧ Below w2.heap.size w2 xw) rfl rfl rfl (by kernel_rfl) (by kernel_rfl) (Try.call61 _ _) (long_any ep mv ms fl lv lg gv gn jv js w2 (hs.below hB16) (hlg.below hB16) (hgn.below hB16) (hjs.below hB16)) (by rintro e x ⟨rfl, hb17⟩; exact ⟨_, rfl, ⟨rfl, hb17⟩⟩)) ?_; clear h13
 rintro _ w15 a14 ⟨rfl, hb17⟩ h14
 have hz18 := hb17.size
 refine pl_nil ?_
 refine co_then ?_
 have hB20 := hb_call hB16 hb17
 cases hc19 : (longB ms.length lg.length gn.length js.length)
 ·
  rw [hc19] at h14
  refine co_false h14 rfl ?_
  refine wp_skip ?_
  refine co_then ?_
  refine co_seq ?_
  refine co_reg ?_
  have hk21 := hk5.below hb17
  refine pk (v := .agg #[.int .i64 ep, mv, .int .u64 fl]) h14 rfl (rn_loadN rfl rfl Try.underlying91 rfl (by kernel_rfl) hk21.all) fun a22 h22 => ?_; clear h14
  refine pk0 (v := lv) h22 rfl fun a23 h23 => ?_; clear h22
  refine pk0 (v := gv) h23 rfl fun a24 h24 => ?_; clear h23
  refine pk0 (v := jv) h24 rfl fun a25 h25 => ?_; clear h24
  refine pk0 (v := .int .u64 last) h25 rfl fun a26 h26 => ?_; clear h25
  have hln := long_no (by assumption : longB ms.length lg.length gn.length js.length = false)
  refine pw h26 rfl (op_call (args := #[.agg #[.int .i64 ep, mv, .int .u64 fl], lv, gv, jv, .int .u64 last]) (R := fun res xw => ∃ u : Value, ∃ t : Value, res = .tuple #[.agg #[.int .i64 (nextEp ep ms lg gn js), u, .int .u64 (nextFl ep ms fl lg gn js last)], t, .int .i64 (nextE ep ms lg gn js)] ∧ xw.ownsRow w15.heap.size 114 2 u (nextM ep ms lg gn js).length ((nextM ep ms lg gn js).flatMap memE) ∧ xw.ownsRow w15.heap.size 3 1 t (nextT ep ms lg gn js).length ((nextT ep ms lg gn js).flatMap (intE .i64)) ∧ Below w15.heap.size w15 xw) rfl rfl rfl (by kernel_rfl) (by kernel_rfl) (Try.call63 _ _) (next_any ep mv ms fl lv lg gv gn jv js last w15 (hs.below hB20) hmk (hlg.below hB20) (hgn.below hB20) (hjs.below hB20) hjk (by first | omega | (simp; done) | (simp; omega)) (by first | omega | (simp; done) | (simp; omega)) (by first | omega | (simp; done) | (simp; omega)) (by omega)) (by rintro e x ⟨u, t, rfl, hq31, hq32, hb33⟩; exact ⟨_, rfl, ⟨u, t, rfl, hq31, hq32, hb33⟩⟩)) ?_; clear h26
  rintro _ w28 a27 ⟨u29, t30, rfl, hq31, hq32, hb33⟩ h27
  have hz34 := hb33.size
  have hl35 := sl_len (row_sl hq31 memE_len)
  have hl36 := sl_len (row_sl hq32 (intE_len .i64))
  have hepk := next_epb (ep := ep) (ms := ms) (lg := lg) (gn := gn) (js := js)
  refine pk0 (v := .tuple #[.agg #[.int .i64 (nextEp ep ms lg gn js), u29, .int .u64 (nextFl ep ms fl lg gn js last)], t30, .int .i64 (nextE ep ms lg gn js)]) h27 rfl fun a37 h37 => ?_; clear h27
  refine pk0 (v := .agg #[.int .i64 (nextEp ep ms lg gn js), u29, .int .u64 (nextFl ep ms fl lg gn js last)]) h37 rfl fun a38 h38 => ?_; clear h37
  refine pk0 (v := t30) h38 rfl fun a39 h39 => ?_; clear h38
  refine pk0 (v := .int .i64 (nextE ep ms lg gn js)) h39 rfl fun a40 h40 => ?_; clear h39
  refine pw h40 rfl (op_new (v := fun N => pt N 0) (T := 91) (cs := #[.int .i64 0, .slice none 0 0, .int .u64 0]) (by kernel_rfl) (by kernel_rfl) (by kernel_rfl)) ?_; clear h40
  rintro _ w42 a41 ⟨N43, rfl, hN46, hz47, hk45, hg44⟩ h41
  have ha48 := row_fresh hq31 hN46
  have ha49 := row_fresh hq32 hN46
  have hz50 := hg44.size
  try dsimp only at h41
  have hr56 := row_kept_new hq31 hg44
  refine pwD h41 rfl (op_storeN rfl rfl rfl (all_cons rfl (all_cons (row_one hr56) (all_cons rfl all_nil))) (by kernel_rfl) hk45 rfl) ?_; clear h41
  rintro _ w52 a51 ⟨hk53, hz54, hg55⟩ h51
  have hk53' : Blk w52 N43 91 #[.int .i64 (nextEp ep ms lg gn js), u29, .int .u64 (nextFl ep ms fl lg gn js last)] := hk53; clear hk53
  have hz57 := hg55.size
  refine pk0 (v := t30) h51 rfl fun a58 h58 => ?_; clear h51
  refine pk0 (v := .int .i64 (nextE ep ms lg gn js)) h58 rfl fun a59 h59 => ?_; clear h58
  refine pl_nil ?_
  refine co_then ?_
  refine co_seq ?_
  refine co_reg ?_
  have hk60 := hk21.below hb33
  have hk61 := hk60.kept hg44 (by simp)
  have hk62 := hk61.kept hg55 (by simp; omega)
  refine pk (v := .agg #[.int .i64 ep, mv, .int .u64 fl]) h59 rfl (rn_loadN rfl rfl Try.underlying91 rfl (by kernel_rfl) hk62.all) fun a63 h63 => ?_; clear h59
  refine pk0 (v := lv) h63 rfl fun a64 h64 => ?_; clear h63
  refine pk0 (v := gv) h64 rfl fun a65 h65 => ?_; clear h64
  refine pk0 (v := jv) h65 rfl fun a66 h66 => ?_; clear h65
  refine pk0 (v := .int .u64 last) h66 rfl fun a67 h67 => ?_; clear h66
  have hB70 := hb_call hB20 hb33
  have hB71 := hb_new hB70 hg44
  have hB72 := hb_at hB71 hg55 (by omega)
  refine pw h67 rfl (op_call (args := #[.agg #[.int .i64 ep, mv, .int .u64 fl], lv, gv, jv, .int .u64 last]) (R := fun res xw => ∃ u : Value, ∃ t : Value, res = .tuple #[.agg #[.int .i64 (nextEp ep ms lg gn js), u, .int .u64 (nextFl ep ms fl lg gn js last)], t, .int .i64 (nextE ep ms lg gn js)] ∧ xw.ownsRow w52.heap.size 114 2 u (nextM ep ms lg gn js).length ((nextM ep ms lg gn js).flatMap memE) ∧ xw.ownsRow w52.heap.size 3 1 t (nextT ep ms lg gn js).length ((nextT ep ms lg gn js).flatMap (intE .i64)) ∧ Below w52.heap.size w52 xw) rfl rfl rfl (by kernel_rfl) (by kernel_rfl) (Try.call64 _ _) (rnext_any ep mv ms fl lv lg gv gn jv js last w52 (hs.below hB72) hmk (hlg.below hB72) (hgn.below hB72) (hjs.below hB72) hjk (by first | omega | (simp; done) | (simp; omega)) (by first | omega | (simp; done) | (simp; omega)) (by first | omega | (simp; done) | (simp; omega)) (by omega)) (by rintro e x ⟨u, t, rfl, hq75, hq76, hb77⟩; exact ⟨_, rfl, ⟨u, t, rfl, hq75, hq76, hb77⟩⟩)) ?_; clear h67
  rintro _ w69 a68 ⟨u73, t74, rfl, hq75, hq76, hb77⟩ h68
  have hz78 := hb77.size
  have hl79 := sl_len (row_sl hq75 memE_len)
  have hl80 := sl_len (row_sl hq76 (intE_len .i64))
  refine pk0 (v := .tuple #[.agg #[.int .i64 (nextEp ep ms lg gn js), u73, .int .u64 (nextFl ep ms fl lg gn js last)], t74, .int .i64 (nextE ep ms lg gn js)]) h68 rfl fun a81 h81 => ?_; clear h68
  refine pk0 (v := .agg #[.int .i64 (nextEp ep ms lg gn js), u73, .int .u64 (nextFl ep ms fl lg gn js last)]) h81 rfl fun a82 h82 => ?_; clear h81
  refine pk0 (v := t74) h82 rfl fun a83 h83 => ?_; clear h82
  refine pk0 (v := .int .i64 (nextE ep ms lg gn js)) h83 rfl fun a84 h84 => ?_; clear h83
  refine pw h84 rfl (op_new (v := fun N => pt N 0) (T := 91) (cs := #[.int .i64 0, .slice none 0 0, .int .u64 0]) (by kernel_rfl) (by kernel_rfl) (by kernel_rfl)) ?_; clear h84
  rintro _ w86 a85 ⟨N87, rfl, hN90, hz91, hk89, hg88⟩ h85
  have hr93 := row_kept_at hr56 hg55 (ha48)
  have hr94 := row_kept_new hr93 (below_grown hb77)
  have ha92 := row_fresh hr94 hN90
  have hr96 := row_kept_new hq32 hg44
  have hr97 := row_kept_at hr96 hg55 (ha49)
  have hr98 := row_kept_new hr97 (below_grown hb77)
  have ha95 := row_fresh hr98 hN90
  have ha99 := row_fresh hq75 hN90
  have ha100 := row_fresh hq76 hN90
  have hz101 := hg88.size
  try dsimp only at h85
  have hr107 := row_kept_new hq75 hg88
  refine pwD h85 rfl (op_storeN rfl rfl rfl (all_cons rfl (all_cons (row_one hr107) (all_cons rfl all_nil))) (by kernel_rfl) hk89 rfl) ?_; clear h85
  rintro _ w103 a102 ⟨hk104, hz105, hg106⟩ h102
  have hk104' : Blk w103 N87 91 #[.int .i64 (nextEp ep ms lg gn js), u73, .int .u64 (nextFl ep ms fl lg gn js last)] := hk104; clear hk104
  have hz108 := hg106.size
  refine pk0 (v := t74) h102 rfl fun a109 h109 => ?_; clear h102
  refine pk0 (v := .int .i64 (nextE ep ms lg gn js)) h109 rfl fun a110 h110 => ?_; clear h109
  refine pl_nil ?_
  refine co_then ?_
  refine co_seq ?_
  refine dr_gen (fun x => Below w.heap.size w x ∧ Blk x N3 91 #[.int .i64 ep, mv, .int .u64 fl] ∧ Blk x N43 91 #[.int .i64 (nextEp ep ms lg gn js), u29, .int .u64 (nextFl ep ms fl lg gn js last)] ∧ Blk x N87 91 #[.int .i64 (nextEp ep ms lg gn js), u73, .int .u64 (nextFl ep ms fl lg gn js last)]) (by kernel_rfl) (fun w111 hg112 => ?_) (fun w111 hg112 => ?_)
  ·
   have hz113 := hg112.size
   have hB114 := hb_call hB72 hb77
   have hB115 := hb_new hB114 hg88
   have hB116 := hb_at hB115 hg106 (by omega)
   have hB117 := hb_new hB116 hg112
   have hk118 := hk62.below hb77
   have hk119 := hk118.kept hg88 (by simp)
   have hk120 := hk119.kept hg106 (by simp; omega)
   have hk121 := hk120.kept hg112 (by simp)
   have hk122 := hk53'.below hb77
   have hk123 := hk122.kept hg88 (by simp)
   have hk124 := hk123.kept hg106 (by simp; omega)
   have hk125 := hk124.kept hg112 (by simp)
   have hk126 := hk104'.kept hg112 (by simp)
   exact ⟨hB117, hk121, hk125, hk126⟩
  have hz127 := hg112.size
  have hB128 := hb_call hB72 hb77
  have hB129 := hb_new hB128 hg88
  have hB130 := hb_at hB129 hg106 (by omega)
  have hB131 := hb_new hB130 hg112
  have hk132 := hk62.below hb77
  have hk133 := hk132.kept hg88 (by simp)
  have hk134 := hk133.kept hg106 (by simp; omega)
  have hk135 := hk134.kept hg112 (by simp)
  have hk136 := hk53'.below hb77
  have hk137 := hk136.kept hg88 (by simp)
  have hk138 := hk137.kept hg106 (by simp; omega)
  have hk139 := hk138.kept hg112 (by simp)
  have hk140 := hk104'.kept hg112 (by simp)
  refine dk 0 (v := .agg #[.int .i64 (nextEp ep ms lg gn js), u29, .int .u64 (nextFl ep ms fl lg gn js last)]) h110 rfl rfl ⟨hB131, hk135, hk139, hk140⟩ (fun x hx => (rn_loadN rfl rfl Try.underlying91 rfl (by kernel_rfl) hx.2.2.1.all)) fun a141 h141 => ?_; clear h110
  refine dk 1 (v := .agg #[.int .i64 (nextEp ep ms lg gn js), u73, .int .u64 (nextFl ep ms fl lg gn js last)]) h141 rfl rfl ⟨hB131, hk135, hk139, hk140⟩ (fun x hx => (rn_loadN rfl rfl Try.underlying91 rfl (by kernel_rfl) hx.2.2.2.all)) fun a142 h142 => ?_; clear h141
  have hr145 := row_kept_new hr94 hg88
  have hr146 := row_kept_at hr145 hg106 (ha92)
  have hr147 := row_kept_new hr146 hg112
  have hr148 := row_kept_at hr107 hg106 (ha99)
  have hr149 := row_kept_new hr148 hg112
  refine d1 2 h142 rfl rfl (op_call (args := #[.agg #[.int .i64 (nextEp ep ms lg gn js), u29, .int .u64 (nextFl ep ms fl lg gn js last)], .agg #[.int .i64 (nextEp ep ms lg gn js), u73, .int .u64 (nextFl ep ms fl lg gn js last)]]) (R := fun res xw => res = .bool (sameCf (nextEp ep ms lg gn js) (nextM ep ms lg gn js) (nextFl ep ms fl lg gn js last) (nextEp ep ms lg gn js) (nextM ep ms lg gn js) (nextFl ep ms fl lg gn js last)) ∧ Below w111.heap.size w111 xw) rfl rfl rfl (by kernel_rfl) (by kernel_rfl) (Try.call65 _ _) (wrsame_any (nextEp ep ms lg gn js) u29 (nextM ep ms lg gn js) (nextFl ep ms fl lg gn js last) (nextEp ep ms lg gn js) u73 (nextM ep ms lg gn js) (nextFl ep ms fl lg gn js last) w111 (row_sl hr147 memE_len) (nextM_ok hmk hjk) (by have := nextEp_bd (ep := ep) (ms := ms) (lg := lg) (gn := gn) (js := js); omega) (nextFl_bd hf hla) (row_sl hr149 memE_len) (nextM_ok hmk hjk) (by have := nextEp_bd (ep := ep) (ms := ms) (lg := lg) (gn := gn) (js := js); omega) (nextFl_bd hf hla)) (by rintro e x ⟨rfl, hb150⟩; exact ⟨_, rfl, ⟨rfl, hb150⟩⟩)) ?_ ?_; clear h142
  ·
   rintro _ w144 ⟨rfl, hb150⟩
   have hz151 := hb150.size
   have hB152 := hb_call hB131 hb150
   have hk153 := hk135.below hb150
   have hk154 := hk139.below hb150
   have hk155 := hk140.below hb150
   exact ⟨hB152, hk153, hk154, hk155⟩
  rintro _ w144 a143 ⟨rfl, hb150⟩ h143
  have hz151 := hb150.size
  have hB152 := hb_call hB131 hb150
  have hk153 := hk135.below hb150
  have hk154 := hk139.below hb150
  have hk155 := hk140.below hb150
  refine dk0 3 (v := .bool (sameCf (nextEp ep ms lg gn js) (nextM ep ms lg gn js) (nextFl ep ms fl lg gn js last) (nextEp ep ms lg gn js) (nextM ep ms lg gn js) (nextFl ep ms fl lg gn js last))) h143 rfl rfl ⟨hB152, hk153, hk154, hk155⟩ fun a156 h156 => ?_; clear h143
  have hc157 : (sameCf (nextEp ep ms lg gn js) (nextM ep ms lg gn js) (nextFl ep ms fl lg gn js last) (nextEp ep ms lg gn js) (nextM ep ms lg gn js) (nextFl ep ms fl lg gn js last)) = true := sameCf_refl _ _ _
  rw [hc157] at h156; clear hc157
  refine dk0 4 (v := t30) h156 rfl rfl ⟨hB152, hk153, hk154, hk155⟩ fun a158 h158 => ?_; clear h156
  refine dk0 5 (v := t74) h158 rfl rfl ⟨hB152, hk153, hk154, hk155⟩ fun a159 h159 => ?_; clear h158
  have hr162 := row_kept_new hr98 hg88
  have hr163 := row_kept_at hr162 hg106 (ha95)
  have hr164 := row_kept_new hr163 hg112
  have hr165 := row_kept_new hr164 (below_grown hb150)
  have hr166 := row_kept_new hq76 hg88
  have hr167 := row_kept_at hr166 hg106 (ha100)
  have hr168 := row_kept_new hr167 hg112
  have hr169 := row_kept_new hr168 (below_grown hb150)
  refine d1 6 h159 rfl rfl (op_call (args := #[t30, t74]) (R := fun res xw => res = .bool true ∧ Below w144.heap.size w144 xw) rfl rfl rfl (by kernel_rfl) (by kernel_rfl) (Try.call66 _ _) (sameInts_eq t30 t74 (nextT ep ms lg gn js) w144 (row_sl hr165 (intE_len .i64)) (row_sl hr169 (intE_len .i64))) (by rintro e x ⟨rfl, hb170⟩; exact ⟨_, rfl, ⟨rfl, hb170⟩⟩)) ?_ ?_; clear h159
  ·
   rintro _ w161 ⟨rfl, hb170⟩
   have hz171 := hb170.size
   have hB172 := hb_call hB152 hb170
   have hk173 := hk153.below hb170
   have hk174 := hk154.below hb170
   have hk175 := hk155.below hb170
   exact ⟨hB172, hk173, hk174, hk175⟩
  rintro _ w161 a160 ⟨rfl, hb170⟩ h160
  have hz171 := hb170.size
  have hB172 := hb_call hB152 hb170
  have hk173 := hk153.below hb170
  have hk174 := hk154.below hb170
  have hk175 := hk155.below hb170
  refine dk0 7 (v := .bool true) h160 rfl rfl ⟨hB172, hk173, hk174, hk175⟩ fun a176 h176 => ?_; clear h160
  refine dk0 8 (v := .bool true) h176 rfl rfl ⟨hB172, hk173, hk174, hk175⟩ fun a177 h177 => ?_; clear h176
  refine dk0 9 (v := .int .i64 (nextE ep ms lg gn js)) h177 rfl rfl ⟨hB172, hk173, hk174, hk175⟩ fun a178 h178 => ?_; clear h177
  refine dk0 10 (v := .int .i64 (nextE ep ms lg gn js)) h178 rfl rfl ⟨hB172, hk173, hk174, hk175⟩ fun a179 h179 => ?_; clear h178
  refine dk0 11 (v := .bool (nextE ep ms lg gn js == nextE ep ms lg gn js)) h179 rfl rfl ⟨hB172, hk173, hk174, hk175⟩ fun a180 h180 => ?_; clear h179
  refine dk0 12 (v := .bool (nextE ep ms lg gn js == nextE ep ms lg gn js)) h180 rfl rfl ⟨hB172, hk173, hk174, hk175⟩ fun a181 h181 => ?_; clear h180
  refine dk0 13 (v := .bool (nextE ep ms lg gn js == nextE ep ms lg gn js)) h181 rfl rfl ⟨hB172, hk173, hk174, hk175⟩ fun a182 h182 => ?_; clear h181
  have hc183 : (nextE ep ms lg gn js == nextE ep ms lg gn js) = true := by simp
  rw [hc183] at h182; clear hc183
  refine dk0 14 (v := pt N3 2) h182 rfl rfl ⟨hB172, hk173, hk174, hk175⟩ fun a184 h184 => ?_; clear h182
  refine dk 15 (v := .int .u64 fl) h184 rfl rfl ⟨hB172, hk173, hk174, hk175⟩ (fun x hx => (rn_load1 rfl rfl Try.isAgg61 (hx.2.1.cell rfl))) fun a185 h185 => ?_; clear h184
  refine dk0 16 (v := .int .u64 last) h185 rfl rfl ⟨hB172, hk173, hk174, hk175⟩ fun a186 h186 => ?_; clear h185
  refine dk0 18 (v := pt N3 2) h186 rfl rfl ⟨hB172, hk173, hk174, hk175⟩ fun a187 h187 => ?_; clear h186
  refine dk 19 (v := .int .u64 fl) h187 rfl rfl ⟨hB172, hk173, hk174, hk175⟩ (fun x hx => (rn_load1 rfl rfl Try.isAgg61 (hx.2.1.cell rfl))) fun a188 h188 => ?_; clear h187
  refine dk0 20 (v := .int .u64 last) h188 rfl rfl ⟨hB172, hk173, hk174, hk175⟩ fun a189 h189 => ?_; clear h188
  refine d1 17 h189 rfl rfl (op_call (args := #[.int .u64 fl, .int .u64 last]) (R := fun res xw => res = .int .u64 (floorP fl last) ∧ Below w161.heap.size w161 xw) rfl rfl rfl (by kernel_rfl) (by kernel_rfl) (Try.call67 _ _) (floor_any fl last w161 hf hla) (by rintro e x ⟨rfl, hb192⟩; exact ⟨_, rfl, ⟨rfl, hb192⟩⟩)) ?_ ?_; clear h189
  ·
   rintro _ w191 ⟨rfl, hb192⟩
   have hz193 := hb192.size
   have hB194 := hb_call hB172 hb192
   have hk195 := hk173.below hb192
   have hk196 := hk174.below hb192
   have hk197 := hk175.below hb192
   exact ⟨hB194, hk195, hk196, hk197⟩
  rintro _ w191 a190 ⟨rfl, hb192⟩ h190
  have hz193 := hb192.size
  have hB194 := hb_call hB172 hb192
  have hk195 := hk173.below hb192
  have hk196 := hk174.below hb192
  have hk197 := hk175.below hb192
  refine d1 21 h190 rfl rfl (op_call (args := #[.int .u64 fl, .int .u64 last]) (R := fun res xw => res = .int .u64 (floorP fl last) ∧ Below w191.heap.size w191 xw) rfl rfl rfl (by kernel_rfl) (by kernel_rfl) (Try.call68 _ _) (rfloor_any fl last w191 hf hla) (by rintro e x ⟨rfl, hb200⟩; exact ⟨_, rfl, ⟨rfl, hb200⟩⟩)) ?_ ?_; clear h190
  ·
   rintro _ w199 ⟨rfl, hb200⟩
   have hz201 := hb200.size
   have hB202 := hb_call hB194 hb200
   have hk203 := hk195.below hb200
   have hk204 := hk196.below hb200
   have hk205 := hk197.below hb200
   exact ⟨hB202, hk203, hk204, hk205⟩
  rintro _ w199 a198 ⟨rfl, hb200⟩ h198
  have hz201 := hb200.size
  have hB202 := hb_call hB194 hb200
  have hk203 := hk195.below hb200
  have hk204 := hk196.below hb200
  have hk205 := hk197.below hb200
  refine dk0 22 (v := .bool (floorP fl last == floorP fl last)) h198 rfl rfl ⟨hB202, hk203, hk204, hk205⟩ fun a206 h206 => ?_; clear h198
  refine dk0 23 (v := .bool (floorP fl last == floorP fl last)) h206 rfl rfl ⟨hB202, hk203, hk204, hk205⟩ fun a207 h207 => ?_; clear h206
  refine dk0 24 (v := .bool (floorP fl last == floorP fl last)) h207 rfl rfl ⟨hB202, hk203, hk204, hk205⟩ fun a208 h208 => ?_; clear h207
  have hc209 : (floorP fl last == floorP fl last) = true := by simp
  rw [hc209] at h208; clear hc209
  refine d1 25 h208 rfl rfl (op_call (args := #[]) (R := fun res xw => res = .bool true ∧ Below w199.heap.size w199 xw) rfl rfl rfl (by kernel_rfl) (by kernel_rfl) (Try.call62 _ _) (awake27  w199 ) (by rintro e x ⟨rfl, hb212⟩; exact ⟨_, rfl, ⟨rfl, hb212⟩⟩)) ?_ ?_; clear h208
  ·
   rintro _ w211 ⟨rfl, hb212⟩
   have hz213 := hb212.size
   have hB214 := hb_call hB202 hb212
   have hk215 := hk203.below hb212
   have hk216 := hk204.below hb212
   have hk217 := hk205.below hb212
   exact ⟨hB214, hk215, hk216, hk217⟩
  rintro _ w211 a210 ⟨rfl, hb212⟩ h210
  have hz213 := hb212.size
  have hB214 := hb_call hB202 hb212
  have hk215 := hk203.below hb212
  have hk216 := hk204.below hb212
  have hk217 := hk205.below hb212
  refine dk0 26 (v := .bool true) h210 rfl rfl ⟨hB214, hk215, hk216, hk217⟩ fun a218 h218 => ?_; clear h210
  refine dk0 27 (v := .bool true) h218 rfl rfl ⟨hB214, hk215, hk216, hk217⟩ fun a219 h219 => ?_; clear h218
  refine dr_done (by kernel_rfl) ?_
  refine co_then ?_
  refine wp_ret ?_
  refine co_ret1 h219 rfl rfl ?_
  exact ⟨rfl, hB214⟩
 ·
  rw [hc19] at h14
  refine co_true h14 rfl ?_
  refine co_seq ?_
  refine co_reg ?_
  refine pw h14 rfl (op_call (args := #[]) (R := fun res xw => res = .bool true ∧ Below w15.heap.size w15 xw) rfl rfl rfl (by kernel_rfl) (by kernel_rfl) (Try.call62 _ _) (awake27  w15 ) (by rintro e x ⟨rfl, hb222⟩; exact ⟨_, rfl, ⟨rfl, hb222⟩⟩)) ?_; clear h14
  rintro _ w221 a220 ⟨rfl, hb222⟩ h220
  have hz223 := hb222.size
  refine pk0 (v := .bool true) h220 rfl fun a224 h224 => ?_; clear h220
  refine pl_nil ?_
  refine co_then ?_
  refine wp_ret ?_
  refine co_thenR ?_
  refine co_ret1 h224 rfl rfl ?_
  have hB225 := hb_call hB20 hb222
  exact ⟨rfl, hB225⟩
set_option maxRecDepth 100000 in
theorem planAgain_law (ep : Int) (mv : Value) (ms : List MemT) (fl : Int) (lv : Value) (lg : List Int) (gv : Value) (gn : List Int) (jv : Value) (js : List MemT) (last : Int) (w : World) (hs : SliceOf memE 2 w mv ms) (hmk : ∀ z ∈ ms, memOk z) (hlg : SliceOf (intE .i64) 1 w lv lg) (hgn : SliceOf (intE .i64) 1 w gv gn) (hjs : SliceOf memE 2 w jv js) (hjk : ∀ z ∈ js, memOk z) (he : -9223372036854775808 ≤ ep ∧ ep ≤ 9223372036854775807) (hf : 0 ≤ fl ∧ fl < 18446744073709551616) (hla : 0 ≤ last ∧ last < 18446744073709551616) :
    Calls Try.prog 14 #[.agg #[.int .i64 ep, mv, .int .u64 fl], lv, gv, jv, .int .u64 last] w fun e w' => e = .returned (.bool true) ∧ Below w.heap.size w w' := by
 have hB0 := Below.refl w.heap.size w
 have hl_hs := sl_len hs
 have hl_hlg := sl_len hlg
 have hl_hgn := sl_len hgn
 have hl_hjs := sl_len hjs
 refine co_enter (n := 58) Try.func14 rfl rfl rfl [(0, .agg #[.int .i64 ep, mv, .int .u64 fl]), (1, lv), (2, gv), (3, jv), (4, .int .u64 last)] rfl (fun a h0 => ?_)
 refine co_seq ?_
 refine co_reg ?_
 refine pw h0 rfl (op_new (v := fun N => pt N 0) (T := 91) (cs := #[.int .i64 ep, mv, .int .u64 fl]) (by kernel_rfl) (by kernel_rfl) (by kernel_rfl)) ?_; clear h0
 rintro _ w2 a1 ⟨N3, rfl, hN6, hz7, hk5, hg4⟩ h1
 have hz8 := hg4.size
 try dsimp only at h1
 refine pk0 (v := .bool false) h1 rfl fun a9 h9 => ?_; clear h1
 refine pl_nil ?_
 refine co_then ?_
 refine co_seq ?_
 refine co_seq ?_
 refine co_reg ?_
 refine pk (v := .agg #[.int .i64 ep, mv, .int .u64 fl]) h9 rfl (rn_loadN rfl rfl Try.underlying91 rfl (by kernel_rfl) hk5.all) fun a10 h10 => ?_; clear h9
 refine pk0 (v := lv) h10 rfl fun a11 h11 => ?_; clear h10
 refine pk0 (v := gv) h11 rfl fun a12 h12 => ?_; clear h11
 refine pk0 (v := jv) h12 rfl fun a13 h13 => ?_; clear h12
 have hB16 := hb_new hB0 hg4
 refine pw h13 rfl (op_call (args := #[.agg #[.int .i64 ep, mv, .int .u64 fl], lv, gv, jv]) (R := fun res xw => res = .bool (longB ms.length lg.length gn.length js.length) ∧ Below w2.heap.size w2 xw) rfl rfl rfl (by kernel_rfl) (by kernel_rfl) (Try.call61 _ _) (long_any ep mv ms fl lv lg gv gn jv js w2 (hs.below hB16) (hlg.below hB16) (hgn.below hB16) (hjs.below hB16)) (by rintro e x ⟨rfl, hb17⟩; exact ⟨_, rfl, ⟨rfl, hb17⟩⟩)) ?_; clear h13
 rintro _ w15 a14 ⟨rfl, hb17⟩ h14
 have hz18 := hb17.size
 refine pl_nil ?_
 refine co_then ?_
 have hB20 := hb_call hB16 hb17
 cases hc19 : (longB ms.length lg.length gn.length js.length)
 ·
  rw [hc19] at h14
  refine co_false h14 rfl ?_
  refine wp_skip ?_
  refine co_then ?_
  refine co_seq ?_
  refine co_reg ?_
  have hk21 := hk5.below hb17
  refine pk (v := .agg #[.int .i64 ep, mv, .int .u64 fl]) h14 rfl (rn_loadN rfl rfl Try.underlying91 rfl (by kernel_rfl) hk21.all) fun a22 h22 => ?_; clear h14
  refine pk0 (v := lv) h22 rfl fun a23 h23 => ?_; clear h22
  refine pk0 (v := gv) h23 rfl fun a24 h24 => ?_; clear h23
  refine pk0 (v := jv) h24 rfl fun a25 h25 => ?_; clear h24
  refine pk0 (v := .int .u64 last) h25 rfl fun a26 h26 => ?_; clear h25
  have hln := long_no (by assumption : longB ms.length lg.length gn.length js.length = false)
  refine pw h26 rfl (op_call (args := #[.agg #[.int .i64 ep, mv, .int .u64 fl], lv, gv, jv, .int .u64 last]) (R := fun res xw => ∃ u : Value, ∃ t : Value, res = .tuple #[.agg #[.int .i64 (nextEp ep ms lg gn js), u, .int .u64 (nextFl ep ms fl lg gn js last)], t, .int .i64 (nextE ep ms lg gn js)] ∧ xw.ownsRow w15.heap.size 114 2 u (nextM ep ms lg gn js).length ((nextM ep ms lg gn js).flatMap memE) ∧ xw.ownsRow w15.heap.size 3 1 t (nextT ep ms lg gn js).length ((nextT ep ms lg gn js).flatMap (intE .i64)) ∧ Below w15.heap.size w15 xw) rfl rfl rfl (by kernel_rfl) (by kernel_rfl) (Try.call63 _ _) (next_any ep mv ms fl lv lg gv gn jv js last w15 (hs.below hB20) hmk (hlg.below hB20) (hgn.below hB20) (hjs.below hB20) hjk (by first | omega | (simp; done) | (simp; omega)) (by first | omega | (simp; done) | (simp; omega)) (by first | omega | (simp; done) | (simp; omega)) (by omega)) (by rintro e x ⟨u, t, rfl, hq31, hq32, hb33⟩; exact ⟨_, rfl, ⟨u, t, rfl, hq31, hq32, hb33⟩⟩)) ?_; clear h26
  rintro _ w28 a27 ⟨u29, t30, rfl, hq31, hq32, hb33⟩ h27
  have hz34 := hb33.size
  have hl35 := sl_len (row_sl hq31 memE_len)
  have hl36 := sl_len (row_sl hq32 (intE_len .i64))
  have hepk := next_epb (ep := ep) (ms := ms) (lg := lg) (gn := gn) (js := js)
  refine pk0 (v := .tuple #[.agg #[.int .i64 (nextEp ep ms lg gn js), u29, .int .u64 (nextFl ep ms fl lg gn js last)], t30, .int .i64 (nextE ep ms lg gn js)]) h27 rfl fun a37 h37 => ?_; clear h27
  refine pk0 (v := .agg #[.int .i64 (nextEp ep ms lg gn js), u29, .int .u64 (nextFl ep ms fl lg gn js last)]) h37 rfl fun a38 h38 => ?_; clear h37
  refine pk0 (v := t30) h38 rfl fun a39 h39 => ?_; clear h38
  refine pk0 (v := .int .i64 (nextE ep ms lg gn js)) h39 rfl fun a40 h40 => ?_; clear h39
  refine pw h40 rfl (op_new (v := fun N => pt N 0) (T := 91) (cs := #[.int .i64 0, .slice none 0 0, .int .u64 0]) (by kernel_rfl) (by kernel_rfl) (by kernel_rfl)) ?_; clear h40
  rintro _ w42 a41 ⟨N43, rfl, hN46, hz47, hk45, hg44⟩ h41
  have ha48 := row_fresh hq31 hN46
  have ha49 := row_fresh hq32 hN46
  have hz50 := hg44.size
  try dsimp only at h41
  have hr56 := row_kept_new hq31 hg44
  refine pwD h41 rfl (op_storeN rfl rfl rfl (all_cons rfl (all_cons (row_one hr56) (all_cons rfl all_nil))) (by kernel_rfl) hk45 rfl) ?_; clear h41
  rintro _ w52 a51 ⟨hk53, hz54, hg55⟩ h51
  have hk53' : Blk w52 N43 91 #[.int .i64 (nextEp ep ms lg gn js), u29, .int .u64 (nextFl ep ms fl lg gn js last)] := hk53; clear hk53
  have hz57 := hg55.size
  refine pk0 (v := t30) h51 rfl fun a58 h58 => ?_; clear h51
  refine pk0 (v := .int .i64 (nextE ep ms lg gn js)) h58 rfl fun a59 h59 => ?_; clear h58
  refine pl_nil ?_
  refine co_then ?_
  refine co_seq ?_
  refine co_seq ?_
  refine co_reg ?_
  refine pk0 (v := .int .i64 (nextE ep ms lg gn js)) h59 rfl fun a60 h60 => ?_; clear h59
  refine pk0 (v := .bool (nextE ep ms lg gn js != 0)) h60 rfl fun a61 h61 => ?_; clear h60
  refine pl_nil ?_
  refine co_then ?_
  have hB63 := hb_call hB20 hb33
  have hB64 := hb_new hB63 hg44
  have hB65 := hb_at hB64 hg55 (by omega)
  have hk66 := hk21.below hb33
  have hk67 := hk66.kept hg44 (by simp)
  have hk68 := hk67.kept hg55 (by simp; omega)
  have hr69 := row_kept_new hq32 hg44
  have hr70 := row_kept_at hr69 hg55 (ha49)
  cases hc62 : (nextE ep ms lg gn js != 0)
  ·
   rw [hc62] at h61
   have hp71 : ¬ (nextE ep ms lg gn js ≠ 0) := by first | simpa using hc62 | simpa [and_assoc] using hc62
   clear hc62
   refine co_false h61 rfl ?_
   refine wp_skip ?_
   refine co_then ?_
   refine co_seq ?_
   refine co_reg ?_
   refine pk (v := .agg #[.int .i64 (nextEp ep ms lg gn js), u29, .int .u64 (nextFl ep ms fl lg gn js last)]) h61 rfl (rn_loadN rfl rfl Try.underlying91 rfl (by kernel_rfl) hk53'.all) fun a72 h72 => ?_; clear h61
   refine pk0 (v := t30) h72 rfl fun a73 h73 => ?_; clear h72
   refine pk0 (v := .int .u64 last) h73 rfl fun a74 h74 => ?_; clear h73
   have hr77 := row_kept_at hr56 hg55 (ha48)
   refine pw h74 rfl (op_call (args := #[.agg #[.int .i64 (nextEp ep ms lg gn js), u29, .int .u64 (nextFl ep ms fl lg gn js last)], t30, .slice none 0 0, .slice none 0 0, .int .u64 last]) (R := fun res xw => ∃ u : Value, ∃ t : Value, res = .tuple #[.agg #[.int .i64 (nextEp (nextEp ep ms lg gn js) (nextM ep ms lg gn js) (nextT ep ms lg gn js) ([]) ([])), u, .int .u64 (nextFl (nextEp ep ms lg gn js) (nextM ep ms lg gn js) (nextFl ep ms fl lg gn js last) (nextT ep ms lg gn js) ([]) ([]) last)], t, .int .i64 (nextE (nextEp ep ms lg gn js) (nextM ep ms lg gn js) (nextT ep ms lg gn js) ([]) ([]))] ∧ xw.ownsRow w52.heap.size 114 2 u (nextM (nextEp ep ms lg gn js) (nextM ep ms lg gn js) (nextT ep ms lg gn js) ([]) ([])).length ((nextM (nextEp ep ms lg gn js) (nextM ep ms lg gn js) (nextT ep ms lg gn js) ([]) ([])).flatMap memE) ∧ xw.ownsRow w52.heap.size 3 1 t (nextT (nextEp ep ms lg gn js) (nextM ep ms lg gn js) (nextT ep ms lg gn js) ([]) ([])).length ((nextT (nextEp ep ms lg gn js) (nextM ep ms lg gn js) (nextT ep ms lg gn js) ([]) ([])).flatMap (intE .i64)) ∧ Below w52.heap.size w52 xw) rfl rfl rfl (by kernel_rfl) (by kernel_rfl) (Try.call63 _ _) (next_any (nextEp ep ms lg gn js) u29 (nextM ep ms lg gn js) (nextFl ep ms fl lg gn js last) t30 (nextT ep ms lg gn js) (.slice none 0 0) ([]) (.slice none 0 0) ([]) last w52 (row_sl hr77 memE_len) (nextM_ok hmk hjk) (row_sl hr70 (intE_len .i64)) (sl_nil _) (sl_nil _) (fun _ h => by cases h) (by have := nextEp_bd (ep := ep) (ms := ms) (lg := lg) (gn := gn) (js := js); omega) (nextFl_bd hf hla) (by first | omega | (simp; done) | (simp; omega)) (by simp)) (by rintro e x ⟨u, t, rfl, hq80, hq81, hb82⟩; exact ⟨_, rfl, ⟨u, t, rfl, hq80, hq81, hb82⟩⟩)) ?_; clear h74
   rintro _ w76 a75 ⟨u78, t79, rfl, hq80, hq81, hb82⟩ h75
   have hz83 := hb82.size
   have hl84 := sl_len (row_sl hq80 memE_len)
   have hl85 := sl_len (row_sl hq81 (intE_len .i64))
   refine pk0 (v := .tuple #[.agg #[.int .i64 (nextEp (nextEp ep ms lg gn js) (nextM ep ms lg gn js) (nextT ep ms lg gn js) ([]) ([])), u78, .int .u64 (nextFl (nextEp ep ms lg gn js) (nextM ep ms lg gn js) (nextFl ep ms fl lg gn js last) (nextT ep ms lg gn js) ([]) ([]) last)], t79, .int .i64 (nextE (nextEp ep ms lg gn js) (nextM ep ms lg gn js) (nextT ep ms lg gn js) ([]) ([]))]) h75 rfl fun a86 h86 => ?_; clear h75
   refine pk0 (v := .agg #[.int .i64 (nextEp (nextEp ep ms lg gn js) (nextM ep ms lg gn js) (nextT ep ms lg gn js) ([]) ([])), u78, .int .u64 (nextFl (nextEp ep ms lg gn js) (nextM ep ms lg gn js) (nextFl ep ms fl lg gn js last) (nextT ep ms lg gn js) ([]) ([]) last)]) h86 rfl fun a87 h87 => ?_; clear h86
   refine pk0 (v := t79) h87 rfl fun a88 h88 => ?_; clear h87
   refine pk0 (v := .int .i64 (nextE (nextEp ep ms lg gn js) (nextM ep ms lg gn js) (nextT ep ms lg gn js) ([]) ([]))) h88 rfl fun a89 h89 => ?_; clear h88
   refine pw h89 rfl (op_new (v := fun N => pt N 0) (T := 91) (cs := #[.int .i64 0, .slice none 0 0, .int .u64 0]) (by kernel_rfl) (by kernel_rfl) (by kernel_rfl)) ?_; clear h89
   rintro _ w91 a90 ⟨N92, rfl, hN95, hz96, hk94, hg93⟩ h90
   have hr98 := row_kept_new hr77 (below_grown hb82)
   have ha97 := row_fresh hr98 hN95
   have hr100 := row_kept_new hr70 (below_grown hb82)
   have ha99 := row_fresh hr100 hN95
   have ha101 := row_fresh hq80 hN95
   have ha102 := row_fresh hq81 hN95
   have hz103 := hg93.size
   try dsimp only at h90
   have hr109 := row_kept_new hq80 hg93
   refine pwD h90 rfl (op_storeN rfl rfl rfl (all_cons rfl (all_cons (row_one hr109) (all_cons rfl all_nil))) (by kernel_rfl) hk94 rfl) ?_; clear h90
   rintro _ w105 a104 ⟨hk106, hz107, hg108⟩ h104
   have hk106' : Blk w105 N92 91 #[.int .i64 (nextEp (nextEp ep ms lg gn js) (nextM ep ms lg gn js) (nextT ep ms lg gn js) ([]) ([])), u78, .int .u64 (nextFl (nextEp ep ms lg gn js) (nextM ep ms lg gn js) (nextFl ep ms fl lg gn js last) (nextT ep ms lg gn js) ([]) ([]) last)] := hk106; clear hk106
   have hz110 := hg108.size
   refine pk0 (v := t79) h104 rfl fun a111 h111 => ?_; clear h104
   refine pk0 (v := .int .i64 (nextE (nextEp ep ms lg gn js) (nextM ep ms lg gn js) (nextT ep ms lg gn js) ([]) ([]))) h111 rfl fun a112 h112 => ?_; clear h111
   refine pl_nil ?_
   refine co_then ?_
   refine co_seq ?_
   refine dr_gen (fun x => Below w.heap.size w x ∧ Blk x N43 91 #[.int .i64 (nextEp ep ms lg gn js), u29, .int .u64 (nextFl ep ms fl lg gn js last)]) (by kernel_rfl) (fun w113 hg114 => ?_) (fun w113 hg114 => ?_)
   ·
    have hz115 := hg114.size
    have hB116 := hb_call hB65 hb82
    have hB117 := hb_new hB116 hg93
    have hB118 := hb_at hB117 hg108 (by omega)
    have hB119 := hb_new hB118 hg114
    have hk120 := hk53'.below hb82
    have hk121 := hk120.kept hg93 (by simp)
    have hk122 := hk121.kept hg108 (by simp; omega)
    have hk123 := hk122.kept hg114 (by simp)
    exact ⟨hB119, hk123⟩
   have hz124 := hg114.size
   have hB125 := hb_call hB65 hb82
   have hB126 := hb_new hB125 hg93
   have hB127 := hb_at hB126 hg108 (by omega)
   have hB128 := hb_new hB127 hg114
   have hk129 := hk53'.below hb82
   have hk130 := hk129.kept hg93 (by simp)
   have hk131 := hk130.kept hg108 (by simp; omega)
   have hk132 := hk131.kept hg114 (by simp)
   refine dk0 0 (v := .int .i64 (nextE (nextEp ep ms lg gn js) (nextM ep ms lg gn js) (nextT ep ms lg gn js) ([]) ([]))) h112 rfl rfl ⟨hB128, hk132⟩ fun a133 h133 => ?_; clear h112
   refine dk0 1 (v := .bool (nextE (nextEp ep ms lg gn js) (nextM ep ms lg gn js) (nextT ep ms lg gn js) ([]) ([]) == 20)) h133 rfl rfl ⟨hB128, hk132⟩ fun a134 h134 => ?_; clear h133
   refine dk0 2 (v := .bool (nextE (nextEp ep ms lg gn js) (nextM ep ms lg gn js) (nextT ep ms lg gn js) ([]) ([]) == 20)) h134 rfl rfl ⟨hB128, hk132⟩ fun a135 h135 => ?_; clear h134
   have hc136 : (nextE (nextEp ep ms lg gn js) (nextM ep ms lg gn js) (nextT ep ms lg gn js) ([]) ([]) == 20) = true := by rw [again_20 (by omega)]; rfl
   rw [hc136] at h135; clear hc136
   refine dk0 3 (v := pt N43 2) h135 rfl rfl ⟨hB128, hk132⟩ fun a137 h137 => ?_; clear h135
   refine dk 4 (v := .int .u64 (nextFl ep ms fl lg gn js last)) h137 rfl rfl ⟨hB128, hk132⟩ (fun x hx => (rn_load1 rfl rfl Try.isAgg61 (hx.2.cell rfl))) fun a138 h138 => ?_; clear h137
   refine dk0 5 (v := .int .u64 last) h138 rfl rfl ⟨hB128, hk132⟩ fun a139 h139 => ?_; clear h138
   refine dk0 7 (v := pt N43 2) h139 rfl rfl ⟨hB128, hk132⟩ fun a140 h140 => ?_; clear h139
   refine dk 8 (v := .int .u64 (nextFl ep ms fl lg gn js last)) h140 rfl rfl ⟨hB128, hk132⟩ (fun x hx => (rn_load1 rfl rfl Try.isAgg61 (hx.2.cell rfl))) fun a141 h141 => ?_; clear h140
   refine d1 6 h141 rfl rfl (op_call (args := #[.int .u64 (nextFl ep ms fl lg gn js last), .int .u64 last]) (R := fun res xw => res = .int .u64 (floorP (nextFl ep ms fl lg gn js last) last) ∧ Below w113.heap.size w113 xw) rfl rfl rfl (by kernel_rfl) (by kernel_rfl) (Try.call67 _ _) (floor_any (nextFl ep ms fl lg gn js last) last w113 (nextFl_bd hf hla) hla) (by rintro e x ⟨rfl, hb144⟩; exact ⟨_, rfl, ⟨rfl, hb144⟩⟩)) ?_ ?_; clear h141
   ·
    rintro _ w143 ⟨rfl, hb144⟩
    have hz145 := hb144.size
    have hB146 := hb_call hB128 hb144
    have hk147 := hk132.below hb144
    exact ⟨hB146, hk147⟩
   rintro _ w143 a142 ⟨rfl, hb144⟩ h142
   have hz145 := hb144.size
   have hB146 := hb_call hB128 hb144
   have hk147 := hk132.below hb144
   refine dk0 9 (v := .bool (floorP (nextFl ep ms fl lg gn js last) last == nextFl ep ms fl lg gn js last)) h142 rfl rfl ⟨hB146, hk147⟩ fun a148 h148 => ?_; clear h142
   refine dk0 10 (v := .bool (floorP (nextFl ep ms fl lg gn js last) last == nextFl ep ms fl lg gn js last)) h148 rfl rfl ⟨hB146, hk147⟩ fun a149 h149 => ?_; clear h148
   refine dk0 11 (v := .bool (floorP (nextFl ep ms fl lg gn js last) last == nextFl ep ms fl lg gn js last)) h149 rfl rfl ⟨hB146, hk147⟩ fun a150 h150 => ?_; clear h149
   have hc151 : (floorP (nextFl ep ms fl lg gn js last) last == nextFl ep ms fl lg gn js last) = true := by rw [again_fl (by omega)]; simp
   rw [hc151] at h150; clear hc151
   refine d1 12 h150 rfl rfl (op_call (args := #[]) (R := fun res xw => res = .bool true ∧ Below w143.heap.size w143 xw) rfl rfl rfl (by kernel_rfl) (by kernel_rfl) (Try.call62 _ _) (awake27  w143 ) (by rintro e x ⟨rfl, hb154⟩; exact ⟨_, rfl, ⟨rfl, hb154⟩⟩)) ?_ ?_; clear h150
   ·
    rintro _ w153 ⟨rfl, hb154⟩
    have hz155 := hb154.size
    have hB156 := hb_call hB146 hb154
    have hk157 := hk147.below hb154
    exact ⟨hB156, hk157⟩
   rintro _ w153 a152 ⟨rfl, hb154⟩ h152
   have hz155 := hb154.size
   have hB156 := hb_call hB146 hb154
   have hk157 := hk147.below hb154
   refine dk0 13 (v := .bool true) h152 rfl rfl ⟨hB156, hk157⟩ fun a158 h158 => ?_; clear h152
   refine dk0 14 (v := .bool true) h158 rfl rfl ⟨hB156, hk157⟩ fun a159 h159 => ?_; clear h158
   refine dr_done (by kernel_rfl) ?_
   refine co_then ?_
   refine wp_ret ?_
   refine co_ret1 h159 rfl rfl ?_
   exact ⟨rfl, hB156⟩
  ·
   rw [hc62] at h61
   have hp160 : nextE ep ms lg gn js ≠ 0 := by first | simpa using hc62 | simpa [and_assoc] using hc62
   clear hc62
   refine co_true h61 rfl ?_
   refine co_seq ?_
   refine co_reg ?_
   refine pw h61 rfl (op_call (args := #[]) (R := fun res xw => res = .bool true ∧ Below w52.heap.size w52 xw) rfl rfl rfl (by kernel_rfl) (by kernel_rfl) (Try.call62 _ _) (awake27  w52 ) (by rintro e x ⟨rfl, hb163⟩; exact ⟨_, rfl, ⟨rfl, hb163⟩⟩)) ?_; clear h61
   rintro _ w162 a161 ⟨rfl, hb163⟩ h161
   have hz164 := hb163.size
   refine pk0 (v := .bool true) h161 rfl fun a165 h165 => ?_; clear h161
   refine pl_nil ?_
   refine co_then ?_
   refine wp_ret ?_
   refine co_thenR ?_
   refine co_ret1 h165 rfl rfl ?_
   have hB166 := hb_call hB65 hb163
   exact ⟨rfl, hB166⟩
 ·
  rw [hc19] at h14
  refine co_true h14 rfl ?_
  refine co_seq ?_
  refine co_reg ?_
  refine pw h14 rfl (op_call (args := #[]) (R := fun res xw => res = .bool true ∧ Below w15.heap.size w15 xw) rfl rfl rfl (by kernel_rfl) (by kernel_rfl) (Try.call62 _ _) (awake27  w15 ) (by rintro e x ⟨rfl, hb169⟩; exact ⟨_, rfl, ⟨rfl, hb169⟩⟩)) ?_; clear h14
  rintro _ w168 a167 ⟨rfl, hb169⟩ h167
  have hz170 := hb169.size
  refine pk0 (v := .bool true) h167 rfl fun a171 h171 => ?_; clear h167
  refine pl_nil ?_
  refine co_then ?_
  refine wp_ret ?_
  refine co_thenR ?_
  refine co_ret1 h171 rfl rfl ?_
  have hB172 := hb_call hB20 hb169
  exact ⟨rfl, hB172⟩
end Go.Proofs.Ytcnahhobppnbbaa
