/- Put together: WalAPq, RfQPq, WalBPq, WalCPq, WalDPq, WalEPq, WalFPq, DiskVPq, PntAPq, WalGPq, WalHPq, PntBPq, PntCPq, PntDPq, PntEPq, PntFPq, PntGPq. Conditions: as each says. -/
import Derived.Test.YtfiplhnplmadmaaDoorPr2
import Derived.Test.YtfiplhnplmadmaaDoorPr1
import Derived.RangeFuncNested
import Derived.RangeFuncBound
import Derived.RangeFuncCalls
import Derived.RangeFuncLeaves
import Derived.RangeFuncBox
import Derived.Shelf.Abstract
import Derived.Shelf.RegionOpen
import Derived.WalkKit
import Derived.OwnWalkIn
import Derived.TacticsInMore
import Derived.Defers
import Derived.Recover
import Derived.Laws.Pointers
import Derived.WalkLawsBesides
/- Package wal, pure: a log's segments on a disk; what an append and a crash make of them. Conditions: none. -/
namespace Go.Proofs.YtfiplhnplmadmaaDoor
open Go.RowKit Go.PlainAid
set_option linter.unusedVariables false

/-- A segment: its texts, and what is torn behind them. -/
structure WSeg where
  T : List ByteArray
  q : ByteArray
def WSeg.b (y : WSeg) : ByteArray := catF y.T ++ y.q
def SegOk (y : WSeg) : Prop := (∀ x ∈ y.T, x.size ≤ 65536) ∧ ∃ x : ByteArray, x.size ≤ 65536 ∧ y.q.data.toList <+: (frameB x).data.toList ∧ y.q.size < (frameB x).size
theorem bsz_app (a b : ByteArray) : (a ++ b).size = a.size + b.size := by rw [← list_len, app_list, List.length_append, list_len, list_len]
theorem frameB_pos (x : ByteArray) : 4 < (frameB x).size := by
  have h := frameB_size x
  have h2 : 0 < (putL (x.size : Int)).length := by
    rcases hl : putL (x.size : Int) with _ | ⟨a, r⟩
    · exfalso; revert hl; unfold putL; split <;> simp
    · simp
  omega
theorem seg_all {y : WSeg} (h : SegOk y) : AllR y.b y.T ((catF y.T).size : Int) (if y.q.size = 0 then 0 else 2) := by
  obtain ⟨h1, x, h2, h3, h4⟩ := h
  have hsz : y.b.size = (catF y.T).size + y.q.size := bsz_app _ _
  have hpre : y.b.data.toList <+: (catF (y.T ++ [x])).data.toList := by
    rw [catF_snoc]; unfold WSeg.b; rw [app_list, app_list]
    exact (List.prefix_append_right_inj _).2 h3
  have ht : (y.T ++ [x]).take y.T.length = y.T := by simp
  have ht2 : (y.T ++ [x]).take (y.T.length + 1) = y.T ++ [x] := List.take_of_length_le (by simp)
  have h := all_cut (y.T ++ [x]) (by intro z hz; rcases List.mem_append.1 hz with hz | hz; exact h1 z hz; simp at hz; subst hz; exact h2) y.b hpre y.T.length (by simp) (by rw [ht]; omega) (.inr (by rw [ht2, catF_snoc, bsz_app]; omega))
  rw [ht] at h
  refine ⟨h.1, ?_⟩
  have e : (if (catF y.T).size = y.b.size then (0 : Int) else 2) = if y.q.size = 0 then 0 else 2 := by
    by_cases hq : y.q.size = 0
    · rw [if_pos hq, if_pos (by omega)]
    · rw [if_neg hq, if_neg (by omega)]
  rw [← e]; exact h.2
def fullS (y : WSeg) : Bool := decide (256 ≤ y.b.size) || decide (y.q.size ≠ 0)
def txtA (A : List WSeg) : List ByteArray := A.flatMap (·.T)
/-- The place, in the list, at which one writes on. -/
def atA (A : List WSeg) : Nat := match A.getLast? with
  | some y => if fullS y = true then A.length else A.length - 1
  | none => 0
/-- x is written behind the rest of it: whole, or (q) its beginning. -/
def putA (A : List WSeg) (f : WSeg → WSeg) : List WSeg := if atA A < A.length then A.set (atA A) (f (A.getD (atA A) ⟨[], ⟨#[]⟩⟩)) else A ++ [f ⟨[], ⟨#[]⟩⟩]
def appS (x : ByteArray) (y : WSeg) : WSeg := ⟨y.T ++ [x], ⟨#[]⟩⟩
def torS (q : ByteArray) (y : WSeg) : WSeg := ⟨y.T, q⟩
def appA (A : List WSeg) (x : ByteArray) : List WSeg := putA A (appS x)
def torA (A : List WSeg) (q : ByteArray) : List WSeg := putA A (torS q)
theorem bempty {q : ByteArray} (h : q.size = 0) : q = ⟨#[]⟩ := by apply bytes_eq; apply List.length_eq_zero_iff.1; rw [list_len]; exact h
theorem at_lt {A : List WSeg} (h : atA A < A.length) : ∃ y, A[atA A]? = some y ∧ atA A + 1 = A.length ∧ y.q = ⟨#[]⟩ ∧ y.b.size < 256 := by
  unfold atA at h ⊢
  cases hl : A.getLast? with
  | none => rw [List.getLast?_eq_none_iff] at hl; subst hl; simp at h
  | some y =>
    rw [hl] at h
    dsimp only at h ⊢
    by_cases hf : fullS y = true
    · rw [if_pos hf] at h; omega
    · have hne : A ≠ [] := by intro e; subst e; simp at hl
      have h0 : 0 < A.length := List.length_pos_iff.2 hne
      have e1 : (if fullS y = true then A.length else A.length - 1) = A.length - 1 := if_neg hf
      rw [e1]
      refine ⟨y, ?_, by omega, ?_, ?_⟩
      · rw [List.getLast?_eq_getElem?] at hl; exact hl
      · exact bempty (by unfold fullS at hf; rw [Bool.or_eq_true, decide_eq_true_iff, decide_eq_true_iff] at hf; omega)
      · unfold fullS at hf; rw [Bool.or_eq_true, decide_eq_true_iff, decide_eq_true_iff] at hf; omega
theorem at_le (A : List WSeg) : atA A ≤ A.length := by unfold atA; split <;> (try split) <;> omega
theorem putA_get (A : List WSeg) (f : WSeg → WSeg) (k : Nat) : (putA A f)[k]? = if k = atA A then some (f ((A[atA A]?).getD ⟨[], ⟨#[]⟩⟩)) else A[k]? := by
  unfold putA
  have hle := at_le A
  by_cases h : atA A < A.length
  · rw [if_pos h, List.getElem?_set]
    by_cases hk : k = atA A
    · subst hk; rw [if_pos rfl, if_pos h, if_pos rfl, List.getD_eq_getElem?_getD]
    · rw [if_neg (fun e => hk e.symm), if_neg hk]
  · rw [if_neg h]
    have e : atA A = A.length := by omega
    rw [e]
    by_cases hk : k = A.length
    · subst hk; rw [if_pos rfl, List.getElem?_append_right (Nat.le_refl _)]; simp
    · rw [if_neg hk]
      by_cases hlt : k < A.length
      · rw [List.getElem?_append_left hlt]
      · rw [List.getElem?_eq_none (by simp; omega), List.getElem?_eq_none (by omega)]
theorem putA_len (A : List WSeg) (f : WSeg → WSeg) : (putA A f).length = if atA A < A.length then A.length else A.length + 1 := by
  unfold putA; split <;> simp
theorem putA_mem {A : List WSeg} {f : WSeg → WSeg} {z : WSeg} (h : z ∈ putA A f) : z ∈ A ∨ z = f ((A[atA A]?).getD ⟨[], ⟨#[]⟩⟩) := by
  obtain ⟨k, hk⟩ := List.getElem?_of_mem h
  rw [putA_get] at hk
  split at hk
  · cases hk; exact .inr rfl
  · exact .inl (List.mem_of_getElem? hk)
theorem at_none {A : List WSeg} (h : ¬ atA A < A.length) : (A[atA A]?).getD ⟨[], ⟨#[]⟩⟩ = ⟨[], ⟨#[]⟩⟩ := by rw [List.getElem?_eq_none (by omega)]; rfl
theorem at_seg (A : List WSeg) : ∃ y, (A[atA A]?).getD ⟨[], ⟨#[]⟩⟩ = y ∧ y.q = ⟨#[]⟩ ∧ ((A[atA A]? = some y ∧ atA A + 1 = A.length) ∨ (y = ⟨[], ⟨#[]⟩⟩ ∧ atA A = A.length)) := by
  by_cases h : atA A < A.length
  · obtain ⟨y, h1, h2, h3, -⟩ := at_lt h
    exact ⟨y, by rw [h1]; rfl, h3, .inl ⟨h1, h2⟩⟩
  · exact ⟨_, at_none h, rfl, .inr ⟨rfl, by have := at_le A; omega⟩⟩
def OkA (A : List WSeg) : Prop := ∀ y ∈ A, SegOk y
theorem bapp_nil (a : ByteArray) : a ++ (⟨#[]⟩ : ByteArray) = a := by apply bytes_eq; rw [app_list]; simp
theorem segOk_whole {T : List ByteArray} (h : ∀ x ∈ T, x.size ≤ 65536) : SegOk ⟨T, ⟨#[]⟩⟩ := ⟨h, ⟨#[]⟩, by decide, List.nil_prefix, by have := frameB_pos ⟨#[]⟩; show 0 < _; omega⟩
theorem OkA.at {A : List WSeg} (h : OkA A) : ∀ x ∈ ((A[atA A]?).getD ⟨[], ⟨#[]⟩⟩).T, x.size ≤ 65536 := by
  cases hA : A[atA A]? with
  | none => intro x hx; simp at hx
  | some y => exact (h y (List.mem_of_getElem? hA)).1
theorem OkA.app {A : List WSeg} (h : OkA A) {x : ByteArray} (hx : x.size ≤ 65536) : OkA (appA A x) := fun z hz => by
  rcases putA_mem hz with h1 | rfl
  · exact h z h1
  · exact segOk_whole fun t ht => by
      rcases List.mem_append.1 ht with h2 | h2
      · exact h.at t h2
      · simp at h2; subst h2; exact hx
theorem OkA.tor {A : List WSeg} (h : OkA A) {x q : ByteArray} (hx : x.size ≤ 65536) (hq : q.data.toList <+: (frameB x).data.toList) (hl : q.size < (frameB x).size) : OkA (torA A q) := fun z hz => by
  rcases putA_mem hz with h1 | rfl
  · exact h z h1
  · exact ⟨h.at, x, hx, hq, hl⟩
theorem txt_put {A : List WSeg} {f : WSeg → WSeg} {m : List ByteArray} (hf : ∀ y, (f y).T = y.T ++ m) : txtA (putA A f) = txtA A ++ m := by
  unfold txtA putA
  by_cases h : atA A < A.length
  · obtain ⟨y, h1, h2, -, -⟩ := at_lt h
    rw [if_pos h]
    obtain ⟨hi, e⟩ := List.getElem?_eq_some_iff.1 h1
    have e1 : A = A.take (atA A) ++ [y] := by
      have := List.take_append_drop (atA A) A
      rw [List.drop_eq_getElem_cons hi, e, List.drop_eq_nil_of_le (by omega)] at this
      exact this.symm
    have hl : (A.take (atA A)).length = atA A := by rw [List.length_take]; omega
    have e2 : A.set (atA A) (f (A.getD (atA A) ⟨[], ⟨#[]⟩⟩)) = A.take (atA A) ++ [f y] := by
      rw [List.getD_eq_getElem?_getD, h1]
      show A.set (atA A) (f y) = _
      rw [List.set_eq_take_append_cons_drop, if_pos hi, List.drop_eq_nil_of_le (by omega)]
    rw [e2]
    generalize hg : A.take (atA A) = B at e1
    rw [e1]
    simp [hf, List.append_assoc]
  · rw [if_neg h]; simp [hf]
theorem txt_app (A : List WSeg) (x : ByteArray) : txtA (appA A x) = txtA A ++ [x] := txt_put fun y => rfl
theorem txt_tor (A : List WSeg) (q : ByteArray) : txtA (torA A q) = txtA A := by
  have h : txtA (putA A (torS q)) = txtA A ++ [] := txt_put fun y => (List.append_nil _).symm
  rw [List.append_nil] at h; exact h
theorem txt_run (xs : List ByteArray) (A : List WSeg) : txtA (xs.foldl appA A) = txtA A ++ xs := by
  induction xs generalizing A with
  | nil => simp
  | cons x xs ih => rw [List.foldl_cons, ih, txt_app, List.append_assoc]; rfl
theorem OkA.run {A : List WSeg} (h : OkA A) {xs : List ByteArray} (hx : ∀ x ∈ xs, x.size ≤ 65536) : OkA (xs.foldl appA A) := by
  induction xs generalizing A with
  | nil => exact h
  | cons x xs ih => exact ih (h.app (hx x (List.mem_cons_self ..))) (fun z hz => hx z (List.mem_cons_of_mem _ hz))
/-- The bytes of the k-th. -/
def bytA (A : List WSeg) (k : Nat) : List UInt8 := ((A[k]?).map fun y => y.b.data.toList).getD []
theorem byt_app (A : List WSeg) (x : ByteArray) (k : Nat) : bytA (appA A x) k = if k = atA A then bytA A k ++ (frameB x).data.toList else bytA A k := by
  unfold bytA appA
  rw [putA_get]
  by_cases hk : k = atA A
  · subst hk
    rw [if_pos rfl, if_pos rfl]
    obtain ⟨y, h1, h2, h3⟩ := at_seg A
    rw [h1]
    show (appS x y).b.data.toList = _
    unfold appS WSeg.b
    rw [bapp_nil, catF_snoc, app_list]
    rcases h3 with ⟨h3, -⟩ | ⟨h3, h4⟩
    · rw [h3]; show _ = y.b.data.toList ++ _; unfold WSeg.b; rw [h2, bapp_nil]
    · rw [List.getElem?_eq_none (by omega), h3]; rfl
  · rw [if_neg hk, if_neg hk]
theorem byt_tor (A : List WSeg) (q : ByteArray) (k : Nat) : bytA (torA A q) k = if k = atA A then bytA A k ++ q.data.toList else bytA A k := by
  unfold bytA torA
  rw [putA_get]
  by_cases hk : k = atA A
  · subst hk
    rw [if_pos rfl, if_pos rfl]
    obtain ⟨y, h1, h2, h3⟩ := at_seg A
    rw [h1]
    show (torS q y).b.data.toList = _
    unfold torS WSeg.b
    rw [app_list]
    rcases h3 with ⟨h3, -⟩ | ⟨h3, h4⟩
    · rw [h3]; show _ = y.b.data.toList ++ _; unfold WSeg.b; rw [h2, bapp_nil]
    · rw [List.getElem?_eq_none (by omega), h3]; rfl
  · rw [if_neg hk, if_neg hk]
theorem some_put (A : List WSeg) (f : WSeg → WSeg) (k : Nat) : ((putA A f)[k]?).isSome = (decide (k = atA A) || (A[k]?).isSome) := by
  rw [putA_get]; by_cases hk : k = atA A <;> simp [hk]
/-- A disk's files: the k-th has the bytes of A's, is safe as far as C's bytes go, and stays if C has it. -/
def flW (first : Int) (A C : List WSeg) (k : Int) : Option FileM := if first ≤ k then (if (A[(k - first).toNat]?).isSome = true then some (bytA A (k - first).toNat, ((bytA C (k - first).toNat).length : Int), (C[(k - first).toNat]?).isSome) else none) else none
/-- A disk that has just such files. -/
def OnD (fm : Int → Option FileM) (first : Int) (A C : List WSeg) : Prop := ∀ k, fm k = flW first A C k
theorem OnD.get {fm : Int → Option FileM} {first : Int} {A C : List WSeg} (h : OnD fm first A C) (i : Nat) : fm (first + (i : Int)) = if (A[i]?).isSome = true then some (bytA A i, ((bytA C i).length : Int), (C[i]?).isSome) else none := by
  rw [h, flW, if_pos (by omega), show (first + (i : Int) - first).toNat = i by omega]
def hereA (first : Int) (A : List WSeg) : Int := first + (atA A : Int)
theorem OnD.getF {fm : Int → Option FileM} {first : Int} {A C : List WSeg} (h : OnD fm first A C) (hC : ∀ i : Nat, (C[i]?).isSome = true → (A[i]?).isSome = true) (i : Nat) : getF fm (first + (i : Int)) = (bytA A i, ((bytA C i).length : Int), (C[i]?).isSome) := by
  unfold Go.Proofs.YtfiplhnplmadmaaDoor.getF; rw [h.get]
  by_cases hi : (A[i]?).isSome = true
  · rw [if_pos hi]; rfl
  · rw [if_neg hi]
    have h1 : A[i]? = none := by simpa using hi
    have h2 : C[i]? = none := by cases hc : C[i]? with
      | none => rfl
      | some y => exact absurd (hC i (by rw [hc]; rfl)) hi
    unfold bytA; rw [h1, h2]; rfl
theorem OnD.put {fm : Int → Option FileM} {first : Int} {A C : List WSeg} (h : OnD fm first A C) {f : WSeg → WSeg} {t : List UInt8} (hC : ∀ i : Nat, (C[i]?).isSome = true → (A[i]?).isSome = true) (hf : ∀ k, bytA (putA A f) k = if k = atA A then bytA A k ++ t else bytA A k) :
    OnD (putF fm (hereA first A) ((Go.Proofs.YtfiplhnplmadmaaDoor.getF fm (hereA first A)).1 ++ t, (Go.Proofs.YtfiplhnplmadmaaDoor.getF fm (hereA first A)).2)) first (putA A f) C := fun k => by
  unfold putF hereA
  rw [h.getF hC]
  by_cases hk : k = first + (atA A : Int)
  · rw [if_pos hk, flW, if_pos (by omega), show (k - first).toNat = atA A by omega, some_put, if_pos (by simp), hf, if_pos rfl]
  · rw [if_neg hk, h]
    unfold flW
    by_cases hl : first ≤ k
    · have hne : ¬ (k - first).toNat = atA A := by omega
      have e1 : ((putA A f)[(k - first).toNat]?).isSome = (A[(k - first).toNat]?).isSome := by rw [some_put]; simp [hne]
      have e2 : bytA (putA A f) (k - first).toNat = bytA A (k - first).toNat := by rw [hf, if_neg hne]
      rw [if_pos hl, if_pos hl, e1, e2]
    · rw [if_neg hl, if_neg hl]
/-- The pieces of what is appended. -/
def pcsA (first : Int) : List WSeg → List ByteArray → List PcT
  | _, [] => []
  | A, x :: r => (hereA first A, ((frameB x).size : Int)) :: pcsA first (appA A x) r
theorem pcs_snoc (first : Int) (xs : List ByteArray) (x : ByteArray) (A : List WSeg) : pcsA first A (xs ++ [x]) = pcsA first A xs ++ [(hereA first (xs.foldl appA A), ((frameB x).size : Int))] := by
  induction xs generalizing A with
  | nil => rfl
  | cons y r ih => simp only [List.cons_append, pcsA, ih, List.foldl_cons]
/-- A disk on which xs came behind what was safe. -/
structure WSt (s : DkS) (first : Int) (A : List WSeg) (xs : List ByteArray) : Prop where
  on : OnD s.fm first (xs.foldl appA A) A
  ps : s.ps = pcsA first A xs
  ok : OkA A
  tx : ∀ x ∈ xs, x.size ≤ 65536
theorem some_run (xs : List ByteArray) (A : List WSeg) (i : Nat) (h : (A[i]?).isSome = true) : ((xs.foldl appA A)[i]?).isSome = true := by
  induction xs generalizing A with
  | nil => exact h
  | cons x r ih => exact ih _ (by unfold appA; rw [some_put, h]; simp)
theorem byt_run (xs : List ByteArray) (A : List WSeg) (i : Nat) : bytA A i <+: bytA (xs.foldl appA A) i := by
  induction xs generalizing A with
  | nil => exact List.prefix_refl _
  | cons x r ih =>
    refine List.IsPrefix.trans ?_ (ih (appA A x))
    rw [byt_app]; split
    · exact List.prefix_append _ _
    · exact List.prefix_refl _
theorem fapp_snoc (xs : List ByteArray) (x : ByteArray) (A : List WSeg) : (xs ++ [x]).foldl appA A = appA (xs.foldl appA A) x := by rw [List.foldl_append]; rfl
theorem WSt.write {s : DkS} {first : Int} {A : List WSeg} {xs : List ByteArray} (h : WSt s first A xs) {x : ByteArray} (hx : x.size ≤ 65536) (hn : wrE (hereA first (xs.foldl appA A)) = 0) : WSt (wrS s (hereA first (xs.foldl appA A)) (frameB x)) first A (xs ++ [x]) := by
  unfold wrS; rw [if_pos hn]
  refine ⟨?_, ?_, h.ok, fun z hz => ?_⟩
  · rw [fapp_snoc]
    exact h.on.put (fun i hi => some_run xs A i hi) (fun k => byt_app _ x k)
  · show s.ps ++ _ = _
    rw [h.ps, pcs_snoc]
  · rcases List.mem_append.1 hz with hz | hz
    · exact h.tx z hz
    · simp at hz; subst hz; exact hx
/-- What a crash leaves: the first j texts, and what is torn of the next one. -/
theorem cr_dead (ps : List PcT) (X : Int × Bool × (Int → Option FileM)) (h0 : X.1 = 0) (hp : ∀ p ∈ ps, 0 < p.2) : (ps.foldl crStep X).2.2 = X.2.2 := by
  induction ps generalizing X with
  | nil => rfl
  | cons p r ih =>
    have h1 := hp p (List.mem_cons_self ..)
    rw [List.foldl_cons, ih]
    · unfold crStep; rw [h0, if_pos h1]; simp; omega
    · unfold crStep; rw [h0, if_pos h1]; rfl
    · exact fun q hq => hp q (List.mem_cons_of_mem _ hq)
theorem pcs_pos (first : Int) (xs : List ByteArray) (A : List WSeg) : ∀ p ∈ pcsA first A xs, 0 < p.2 := by
  induction xs generalizing A with
  | nil => intro p hp; cases hp
  | cons x r ih =>
    intro p hp
    rcases List.mem_cons.1 hp with rfl | hp
    · have := frameB_pos x; show (0 : Int) < ((frameB x).size : Int); omega
    · exact ih _ p hp
/-- On a disk whose files have A's bytes, C's bytes are safe. -/
def SafeD (fm : Int → Option FileM) (first : Int) (A C : List WSeg) : Prop := OnD fm first A C ∧ (∀ i : Nat, (C[i]?).isSome = true → (A[i]?).isSome = true) ∧ ∀ i : Nat, bytA C i <+: bytA A i
theorem SafeD.step {fm : Int → Option FileM} {first : Int} {A C : List WSeg} (h : SafeD fm first A C) {f : WSeg → WSeg} {t : List UInt8} (hf : ∀ k, bytA (putA C f) k = if k = atA C then bytA C k ++ t else bytA C k) (ha : (A[atA C]?).isSome = true) (hp : bytA C (atA C) ++ t <+: bytA A (atA C)) {kp : Int} (hk : kp = (t.length : Int)) :
    SafeD (putF fm (hereA first C) ((getF fm (hereA first C)).1, (getF fm (hereA first C)).2.1 + kp, true)) first A (putA C f) := by
  obtain ⟨h1, h2, h3⟩ := h
  refine ⟨fun k => ?_, fun i hi => ?_, fun i => ?_⟩
  · unfold putF hereA
    rw [h1.getF h2]
    by_cases hk2 : k = first + (atA C : Int)
    · rw [if_pos hk2, flW, if_pos (by omega), show (k - first).toNat = atA C by omega, if_pos ha, some_put, hf, if_pos rfl]
      simp [List.length_append, hk]
    · rw [if_neg hk2, h1]
      unfold flW
      by_cases hl : first ≤ k
      · have hne : ¬ (k - first).toNat = atA C := by omega
        have e1 : ((putA C f)[(k - first).toNat]?).isSome = (C[(k - first).toNat]?).isSome := by rw [some_put]; simp [hne]
        have e2 : bytA (putA C f) (k - first).toNat = bytA C (k - first).toNat := by rw [hf, if_neg hne]
        rw [if_pos hl, if_pos hl, e1, e2]
      · rw [if_neg hl, if_neg hl]
  · rw [some_put] at hi
    by_cases e : i = atA C
    · rw [e]; exact ha
    · simp [e] at hi; exact h2 i (by simpa using hi)
  · rw [hf]; split
    · rename_i e; rw [e]; exact hp
    · exact h3 i
theorem ext_take (t : ByteArray) (j : Nat) : (t.extract 0 j).data.toList = t.data.toList.take j := by rw [ext_list]; rfl
theorem crash_run {first : Int} {F : List WSeg} : ∀ (xs : List ByteArray) (C : List WSeg) (X : Int × Bool × (Int → Option FileM)), 0 ≤ X.1 → X.2.1 = true → SafeD X.2.2 first F C → OkA C → (∀ x ∈ xs, x.size ≤ 65536) → (∀ i : Nat, (F[i]?).isSome = ((xs.foldl appA C)[i]?).isSome ∧ bytA F i = bytA (xs.foldl appA C) i) →
    ∃ (j : Nat) (E : List WSeg), j ≤ xs.length ∧ txtA E = txtA C ++ xs.take j ∧ OkA E ∧ SafeD ((pcsA first C xs).foldl crStep X).2.2 first F E ∧ E.length ≤ C.length + j + 1
  | [], C, X, hl, hw, hS, hO, hx, hF => ⟨0, C, Nat.le_refl _, by simp, hO, hS, by omega⟩
  | x :: r, C, X, hl, hw, hS, hO, hx, hF => by
    have hxs := hx x (List.mem_cons_self ..)
    have hpos := frameB_pos x
    have hat : (F[atA C]?).isSome = true := by
      rw [(hF (atA C)).1, List.foldl_cons]
      exact some_run r _ _ (by unfold appA; rw [some_put]; simp)
    have hpre : bytA (appA C x) (atA C) <+: bytA F (atA C) := by
      rw [(hF (atA C)).2, List.foldl_cons]; exact byt_run r _ _
    rw [byt_app, if_pos rfl] at hpre
    have hfl : (frameB x).data.toList.length = (frameB x).size := list_len _
    by_cases hlt : X.1 < ((frameB x).size : Int)
    · have hdead : ((pcsA first C (x :: r)).foldl crStep X).2.2 = (crStep X (hereA first C, ((frameB x).size : Int))).2.2 := by
        show ((pcsA first (appA C x) r).foldl crStep (crStep X (hereA first C, ((frameB x).size : Int)))).2.2 = _
        refine cr_dead _ _ ?_ (pcs_pos _ _ _)
        unfold crStep; show X.1 - (if X.1 < ((frameB x).size : Int) then X.1 else _) = 0
        rw [if_pos hlt]; omega
      rw [hdead]
      have hstep : (crStep X (hereA first C, ((frameB x).size : Int))).2.2 = if 0 < X.1 then putF X.2.2 (hereA first C) ((getF X.2.2 (hereA first C)).1, (getF X.2.2 (hereA first C)).2.1 + X.1, true) else X.2.2 := by
        unfold crStep
        simp only [if_pos hlt]
        by_cases h0 : 0 < X.1
        · rw [if_pos (.inl h0), if_pos h0]
        · rw [if_neg (by rintro (h | ⟨h, -⟩); exact h0 h; have h : ((frameB x).size : Int) = 0 := h; omega), if_neg h0]
      rw [hstep]
      by_cases h0 : 0 < X.1
      · rw [if_pos h0]
        have hq : (((frameB x).extract 0 X.1.toNat).data.toList) <+: (frameB x).data.toList := by rw [ext_take]; exact List.take_prefix _ _
        have hql : ((frameB x).extract 0 X.1.toNat).data.toList.length = X.1.toNat := by rw [ext_take, List.length_take]; omega
        refine ⟨0, torA C ((frameB x).extract 0 X.1.toNat), Nat.zero_le _, by rw [txt_tor]; simp, hO.tor hxs hq (by rw [← list_len, hql]; omega), hS.step (fun k => byt_tor C _ k) hat (List.IsPrefix.trans ((List.prefix_append_right_inj _).2 hq) hpre) (by rw [hql]; omega), ?_⟩
        unfold torA; rw [putA_len]; split <;> omega
      · rw [if_neg h0]
        exact ⟨0, C, Nat.zero_le _, by simp, hO, hS, by omega⟩
    · have hstep : crStep X (hereA first C, ((frameB x).size : Int)) = (X.1 - ((frameB x).size : Int), true, putF X.2.2 (hereA first C) ((getF X.2.2 (hereA first C)).1, (getF X.2.2 (hereA first C)).2.1 + ((frameB x).size : Int), true)) := by
        unfold crStep
        simp only [if_neg hlt, hw]
        rw [if_pos (.inl (by omega))]; simp
      obtain ⟨j, E, h1, h2, h3, h4, h5⟩ := crash_run r (appA C x) (crStep X (hereA first C, ((frameB x).size : Int))) (by rw [hstep]; show 0 ≤ X.1 - ((frameB x).size : Int); omega) (by rw [hstep]) (by rw [hstep]; exact hS.step (fun k => byt_app C x k) hat hpre (by rw [hfl])) (hO.app hxs) (fun z hz => hx z (List.mem_cons_of_mem _ hz)) (fun i => hF i)
      have hlen : (appA C x).length ≤ C.length + 1 := by unfold appA; rw [putA_len]; split <;> omega
      exact ⟨j + 1, E, by simp; omega, by rw [h2, txt_app, List.append_assoc]; rfl, h3, h4, by omega⟩
theorem WSt.crash {s : DkS} {first : Int} {A : List WSeg} {xs : List ByteArray} (h : WSt s first A xs) (n : Int) :
    ∃ (j : Nat) (E : List WSeg), j ≤ xs.length ∧ txtA E = txtA A ++ xs.take j ∧ E.length ≤ A.length + j + 1 ∧ WSt (crS s n) first E [] := by
  obtain ⟨j, E, h1, h2, h3, ⟨h4, h5, h6⟩, h7⟩ := crash_run (first := first) (F := xs.foldl appA A) xs A (mx0 n, true, s.fm) (mx0_nn n) rfl ⟨h.on, fun i hi => some_run xs A i hi, fun i => byt_run xs A i⟩ h.ok h.tx (fun i => ⟨rfl, rfl⟩)
  refine ⟨j, E, h1, h2, h7, ⟨fun k => ?_, rfl, h3, fun x hx => by cases hx⟩⟩
  show trF (crRun n s.fm s.ps).2.2 k = flW first E E k
  have e : (crRun n s.fm s.ps).2.2 = ((pcsA first A xs).foldl crStep (mx0 n, true, s.fm)).2.2 := by rw [h.ps]; rfl
  rw [e]; unfold trF; rw [h4 k]; unfold flW
  by_cases hl : first ≤ k
  · rw [if_pos hl, if_pos hl]
    generalize (k - first).toNat = i at *
    by_cases hE : (E[i]?).isSome = true
    · rw [if_pos (h5 i hE), if_pos hE]
      show trM _ = _
      unfold trM
      simp only [hE, if_true]
      have := List.prefix_iff_eq_take.1 (h6 i)
      rw [show ((bytA E i).length : Int).toNat = (bytA E i).length by omega, ← this]
    · rw [if_neg hE]
      split
      · show trM _ = none
        unfold trM; simp [hE]
      · rfl
  · rw [if_neg hl, if_neg hl]; rfl
theorem WSt.sync {s : DkS} {first : Int} {A : List WSeg} {xs : List ByteArray} (h : WSt s first A xs) : WSt (synS s) first (xs.foldl appA A) [] := by
  have hpc : ∀ (xs : List ByteArray) (A : List WSeg) (i : Nat), ((xs.foldl appA A)[i]?).isSome = ((A[i]?).isSome || decide (∃ p ∈ pcsA first A xs, p.1 = first + (i : Int))) ∧ ((¬ ∃ p ∈ pcsA first A xs, p.1 = first + (i : Int)) → bytA (xs.foldl appA A) i = bytA A i) := by
    intro xs
    induction xs with
    | nil => intro A i; simp [pcsA]
    | cons x r ih =>
      intro A i
      obtain ⟨i1, i2⟩ := ih (appA A x) i
      rw [List.foldl_cons]
      have hm : (∃ p ∈ pcsA first A (x :: r), p.1 = first + (i : Int)) ↔ (i = atA A ∨ ∃ p ∈ pcsA first (appA A x) r, p.1 = first + (i : Int)) := by
        constructor
        · rintro ⟨p, hp, he⟩
          rcases List.mem_cons.1 hp with rfl | hp
          · have he : first + (atA A : Int) = first + (i : Int) := he
            exact .inl (by omega)
          · exact .inr ⟨p, hp, he⟩
        · rintro (rfl | ⟨p, hp, he⟩)
          · exact ⟨_, List.mem_cons_self .., rfl⟩
          · exact ⟨p, List.mem_cons_of_mem _ hp, he⟩
      refine ⟨?_, fun hn => ?_⟩
      · have hs : ((appA A x)[i]?).isSome = (decide (i = atA A) || (A[i]?).isSome) := some_put A (appS x) i
        rw [i1, Bool.eq_iff_iff, Bool.or_eq_true, Bool.or_eq_true, decide_eq_true_iff, decide_eq_true_iff, hm, hs, Bool.or_eq_true, decide_eq_true_iff]
        constructor
        · rintro ((k | k) | k)
          · exact .inr (.inl k)
          · exact .inl k
          · exact .inr (.inr k)
        · rintro (k | k | k)
          · exact .inl (.inr k)
          · exact .inl (.inl k)
          · exact .inr k
      · rw [hm] at hn
        rw [i2 (fun hx => hn (.inr hx)), byt_app, if_neg (fun e => hn (.inl e))]
  have hpl : ∀ (xs : List ByteArray) (A : List WSeg), ∀ p ∈ pcsA first A xs, first ≤ p.1 := by
    intro xs
    induction xs with
    | nil => intro A p hp; cases hp
    | cons x r ih => intro A p hp; rcases List.mem_cons.1 hp with rfl | hp; show first ≤ first + (atA A : Int); omega; exact ih _ p hp
  refine ⟨fun k => ?_, rfl, h.ok.run h.tx, fun x hx => by cases hx⟩
  obtain ⟨g1, g2, g3⟩ := syn_get s.ps s.fm k
  show synF s.fm s.ps k = flW first (xs.foldl appA A) (xs.foldl appA A) k
  rw [h.ps] at g1 g2 g3 ⊢
  have hk := h.on k
  by_cases hl : first ≤ k
  · obtain ⟨i, rfl⟩ : ∃ i : Nat, k = first + (i : Int) := ⟨(k - first).toNat, by omega⟩
    obtain ⟨c1, c2⟩ := hpc xs A i
    unfold flW; rw [if_pos hl, show (first + (i : Int) - first).toNat = i by omega]
    rw [flW, if_pos hl, show (first + (i : Int) - first).toNat = i by omega] at hk
    by_cases hp : ∃ p ∈ pcsA first A xs, p.1 = first + (i : Int)
    · have hsome : ((xs.foldl appA A)[i]?).isSome = true := by rw [c1]; simp [hp]
      have e2 := g2 hp
      have hg : getF s.fm (first + (i : Int)) = (bytA (xs.foldl appA A) i, ((bytA A i).length : Int), (A[i]?).isSome) := by unfold getF; rw [hk, if_pos hsome]; rfl
      rw [hg] at e2 g1
      rw [if_pos hsome]
      have hs : (synF s.fm (pcsA first A xs) (first + (i : Int))).isSome = true := by
        cases hq : synF s.fm (pcsA first A xs) (first + (i : Int)) with
        | some m => rfl
        | none => unfold getF at e2; rw [hq] at e2; simp [mz] at e2
      obtain ⟨m, hm⟩ := Option.isSome_iff_exists.1 hs
      unfold getF at g1 e2; rw [hm] at g1 e2
      rw [hm, hsome]
      obtain ⟨m1, m2⟩ := m
      simp only [Option.getD_some] at g1 e2
      rw [g1, e2]
    · obtain ⟨e2, e3⟩ := g3 hp
      rw [e3, hk]
      by_cases hsome : ((xs.foldl appA A)[i]?).isSome = true
      · rw [if_pos hsome, if_pos hsome]
        have hA : (A[i]?).isSome = true := by rw [c1] at hsome; simpa [hp] using hsome
        rw [hsome, hA, c2 hp]
      · rw [if_neg hsome, if_neg hsome]
  · have hp : ¬ ∃ p ∈ pcsA first A xs, p.1 = k := by rintro ⟨p, hp, rfl⟩; exact hl (hpl xs A p hp)
    rw [(g3 hp).2, hk]; unfold flW; rw [if_neg hl, if_neg hl]
end Go.Proofs.YtfiplhnplmadmaaDoor

/- A range over a function that may be left, whose iterator turns what the caller told it of (Qp). Conditions: none. -/
namespace Go.Proofs.YtfiplhnplmadmaaDoor
open Go.RowKit Go.Shelf
set_option linter.unusedVariables false

/-- What a block that is neither cells nor a map leaves as it was. -/
def ShutQ {β : Type} (B : Nat) (I : β → World → Prop) : Prop :=
  ∀ s W W' row, I s W → W.grownBy W' row → (∀ r, row = some r → B ≤ r ∧ ∃ o : Obj, W.heap[r]? = some o ∧ o.isCells = false ∧ o.isWalk = false) → I s W'
/-- It yields the first of such a list, up to whoever stops it. -/
def SeqQ {α : Type} (P : Program) (gf : Nat) (lb : Array Value) (encs : α → Array Value) (Kp Qp : World → World → Prop) (ks : List α → Prop) (w : World) : Prop :=
  ∀ (l : Nat) (J Jx : List α → World → Prop) (W : World), Below w.heap.size w W → w.heap.size + 2 ≤ W.heap.size →
    (∀ pre A B, J pre A → A.grownBy B none → J pre B) → (∀ pre A B, Jx pre A → A.grownBy B none → Jx pre B) → (∀ pre A B, J pre A → Qp A B → J pre B) →
    (∀ pre x A ys, J pre A → ks ys → (pre ++ [x]) <+: ys → YieldAt Fence.wide 1 P l (encs x) A fun e B => (e = .returned (.bool true) ∧ J (pre ++ [x]) B ∧ Kp A B) ∨ (e = .returned (.bool false) ∧ Jx (pre ++ [x]) B)) →
    J [] W → CallsIn Fence.wide 2 P gf (#[.func (.yield l) #[] #[]] ++ lb) W fun e B => (∃ v, e = .returned v) ∧ ((∃ ys, ks ys ∧ J ys B) ∨ ∃ ys pre, ks ys ∧ pre <+: ys ∧ Jx pre B)
theorem rf_q {α : Type} {P : Program} {n : Nat} {g : Operand} {ps : Array Tmp} {assign body : Code} {Q : Exit → Act → World → Prop} {a : Act} {w : World} {gf : Nat} {lb : Array Value} (hg : a.eval g = .func (.func gf) #[] lb)
    (eg : ∀ args w, (callFunc gf args).run P w = .ok (.enter gf args) w) {encs : α → Array Value} {Kp Qp : World → World → Prop} {ks : List α → Prop} (hseq : SeqQ P gf lb encs Kp Qp ks w) (hps : ∀ x, (encs x).size = ps.size)
    (hKt : ∀ {A B C : World}, Kp A B → Kp B C → Kp A C) (hKb : ∀ (W : World) (o o' : Obj), W.heap[w.heap.size + 1]? = some o → o.isCells = false → o.isWalk = false → Kp W (W.putObj (w.heap.size + 1) o'))
    (hQ : ∀ (A B : World), Qp A B → ∀ (k : Nat) (o : Obj), A.heap[k]? = some o → o.isCells = false → o.isWalk = false → B.heap[k]? = some o)
    (I : List α → World → Prop) (Ix : Code → List α → World → Prop) (hI : ShutQ w.heap.size I) (hIQ : ∀ pre A B, I pre A → Qp A B → I pre B) (hIx : ∀ c, ShutQ w.heap.size (Ix c)) (h0 : I [] w) (Ax : α → Act → World → Prop) (hAx : ∀ x a', ShutQ w.heap.size (fun (_ : Unit) W => Ax x a' W))
    (hassign : ∀ (l : Nat) (pre : List α) (x : α) (W : World) (K : Act → World → Prop), w.heap.size + 1 < W.heap.size → I pre W → (∀ a' W', KeepsFrom w.heap.size W W' → Kp W W' → I pre W' → Ax x a' W' → K a' W') →
      assign.wpIn (Fence.wide.inRound l) 1 P (Exit.then K (fun _ _ _ => False)) { tmps := (ps.zip (encs x)).foldl (fun t (p, v) => t.setIfInBounds p v) a.tmps, defers := [] } W)
    (hbody : ∀ (l : Nat) (pre : List α) (x : α) (a' : Act) (W : World), w.heap.size + 1 = l → (∃ r, W.heap[l]? = some (.loop r)) → I pre W → Ax x a' W → (∃ ys, ks ys ∧ (pre ++ [x]) <+: ys) → body.wpIn (Fence.wide.inRound l) 1 P (ownPostG w.heap.size Kp I Ix (pre ++ [x]) W) a' W)
    (hdone : ∀ (D : Nat) (ys : List α) (W : World), w.heap.size ≤ D → ks ys → I ys W → W.heap[D]? = some (.deferred (some [])) → Q .normal { a with defers := { target := .collected D, args := #[] } :: a.defers } W)
    (hstop : ∀ (D : Nat) (c : Code) (pre ys : List α) (W : World), w.heap.size ≤ D → ks ys → pre <+: ys → Ix c pre W → W.heap[D]? = some (.deferred (some [])) → c.wpIn Fence.wide n P Q { a with defers := { target := .collected D, args := #[] } :: a.defers } W) :
    (Code.rangeFunc g ps assign body).wpIn Fence.wide n P Q a w := by
  refine wpIn_rangeFunc fun fn hfn => ?_
  obtain ⟨rec, hrec⟩ : ∃ rec : LoopState → Option Code → Loop, rec = fun st pe => { state := st, pending := pe, fn := fn, tmps := a.tmps, params := ps, assign := assign, body := body, defers := w.heap.size } := ⟨_, rfl⟩
  obtain ⟨V, hV⟩ : ∃ V, V = (w.alloc (.deferred (some []))).alloc (.loop (rec .ready none)) := ⟨_, rfl⟩
  have vL : V.heap[w.heap.size + 1]? = some (.loop (rec .ready none)) := by rw [hV]; have := World.alloc_heap_new (w.alloc (.deferred (some []))) (.loop (rec .ready none)); rwa [World.size_alloc] at this
  have vD : V.heap[w.heap.size]? = some (.deferred (some [])) := by rw [hV]; exact (Below.heap_alloc _ _ _ (by simp)).trans (World.alloc_heap_new w _)
  have vS : V.heap.size = w.heap.size + 2 := by rw [hV]; simp
  have vI : I [] V := by rw [hV]; exact hI _ _ _ none (hI _ _ _ none h0 (World.grownBy_alloc _ _ _) (fun _ e => nomatch e)) (World.grownBy_alloc _ _ _) (fun _ e => nomatch e)
  have vB : Below w.heap.size w V := by rw [hV]; exact ((Below.refl _ w).alloc (Nat.le_refl _) _).alloc (by simp) _
  refine ⟨w.heap.size + 1, [{ target := .collected w.heap.size, args := #[] }], V, { target := .fn (.func gf) lb, args := #[.func (.yield (w.heap.size + 1)) #[] #[]] }, V, gf,
    #[.func (.yield (w.heap.size + 1)) #[] #[]] ++ lb, V, by rw [hV, hrec]; exact run_enterLoop_outer _ _ _ _ _, by simp only [resolve, hg]; simp [go_sem], (fun f' hf' => by simp [Target.leads] at hf'; subst hf'; trivial), by simp [invoke, go_sem, eg], (fun h => by cases h), ?_⟩
  have put : ∀ {s : List α} {W : World} {r : Loop} (o' : Obj) {I2 : List α → World → Prop}, ShutQ w.heap.size I2 → I2 s W → W.heap[w.heap.size + 1]? = some (.loop r) → I2 s (W.putObj (w.heap.size + 1) o') :=
    fun {s W r} o' {I2} h hs hl => h s W _ (some (w.heap.size + 1)) hs (grownBy_putObj' W _ o') (fun k e => by cases e; exact ⟨Nat.le_succ _, _, hl, rfl, rfl⟩)
  have same0 : ∀ {A B : World}, A.grownBy B none → ∀ {k : Nat} {o : Obj}, A.heap[k]? = some o → B.heap[k]? = some o :=
    fun {A B} hg' {k o} h => (hg'.block _ (Array.getElem?_eq_some_iff.1 h).1 (fun e => nomatch e)).trans h
  refine (callsIn_wide.2 (callsIn_wide.1 (hseq (w.heap.size + 1) (fun pre W => I pre W ∧ W.heap[w.heap.size + 1]? = some (.loop (rec .ready none)) ∧ W.heap[w.heap.size]? = some (.deferred (some [])))
    (fun pre W => ∃ c, Ix c pre W ∧ W.heap[w.heap.size + 1]? = some (.loop (rec .done (some c))) ∧ W.heap[w.heap.size]? = some (.deferred (some []))) V vB (by omega) ?_ ?_ ?_ ?_ ⟨vI, vL, vD⟩))).mono ?_
  · rintro pre A B ⟨h1, h2, h3⟩ hg'
    exact ⟨hI pre A B none h1 hg' (fun r e => nomatch e), same0 hg' h2, same0 hg' h3⟩
  · rintro pre A B ⟨c, h1, h2, h3⟩ hg'
    exact ⟨c, hIx c pre A B none h1 hg' (fun r e => nomatch e), same0 hg' h2, same0 hg' h3⟩
  · rintro pre A B ⟨h1, h2, h3⟩ hq
    exact ⟨hIQ pre A B h1 hq, hQ A B hq _ _ h2 rfl rfl, hQ A B hq _ _ h3 rfl rfl⟩
  · rintro pre x A ys ⟨h1, h2, h3⟩ hks hp
    have hlt0 : w.heap.size + 1 < A.heap.size := (Array.getElem?_eq_some_iff.1 h2).1
    have hy := run_yield (P := P) (args := encs x) h2 (by rw [hrec]; exact hps x)
    rw [hrec] at hy
    refine ⟨fn, _, assign, body, hy, ?_⟩
    refine roundIn_of_wpIn hfn ?_
    refine hassign _ pre x A _ hlt0 h1 fun a' B kf kp h1' hax => ?_
    have b2 := kf.same _ _ (by omega) h2 rfl
    have b3 := kf.same _ _ (Nat.le_refl _) h3 rfl
    have hlt : w.heap.size + 1 < B.heap.size := (Array.getElem?_eq_some_iff.1 b2).1
    refine ⟨_, run_beginRound b2 (by rw [hrec]), ?_⟩
    have c2 : (B.putObj (w.heap.size + 1) (.loop { rec .ready none with state := .busy })).heap[w.heap.size + 1]? = some (.loop { rec .ready none with state := .busy }) := World.putObj_heap_same hlt
    have c3 : (B.putObj (w.heap.size + 1) (.loop { rec .ready none with state := .busy })).heap[w.heap.size]? = some (.deferred (some [])) := (World.putObj_heap_other (by omega)).trans b3
    have hw2 : Kp B (B.putObj (w.heap.size + 1) (.loop { rec .ready none with state := .busy })) := hKb _ _ _ b2 rfl rfl
    have ax2 : Ax x a' (B.putObj (w.heap.size + 1) (.loop { rec .ready none with state := .busy })) := hAx x a' () B _ (some (w.heap.size + 1)) hax (grownBy_putObj' B _ _) (fun k e => by cases e; exact ⟨Nat.le_succ _, _, b2, rfl, rfl⟩)
    refine wpIn_mono (hbody _ pre x a' _ rfl ⟨_, c2⟩ (put _ hI h1' b2) ax2 ⟨ys, hks, hp⟩) ?_
    have fin : ∀ (jump : Option Code) (W3 : World), KeepsFrom w.heap.size (B.putObj (w.heap.size + 1) (.loop { rec .ready none with state := .busy })) W3 →
        (Instr.endRound (w.heap.size + 1) jump).run P W3 = .ok (.bool jump.isNone) (W3.putObj (w.heap.size + 1) (.loop (rec (if jump.isNone then .ready else .done) jump))) ∧
        W3.heap[w.heap.size + 1]? = some (.loop { rec .ready none with state := .busy }) ∧
        (W3.putObj (w.heap.size + 1) (.loop (rec (if jump.isNone then .ready else .done) jump))).heap[w.heap.size + 1]? = some (.loop (rec (if jump.isNone then .ready else .done) jump)) ∧
        (W3.putObj (w.heap.size + 1) (.loop (rec (if jump.isNone then .ready else .done) jump))).heap[w.heap.size]? = some (.deferred (some [])) := fun jump W3 hk3 => by
      have hl3 := hk3.same _ _ (by omega) c2 rfl
      have := run_endRound (P := P) jump hl3
      rw [hrec] at this ⊢
      exact ⟨this, by rw [hrec] at hl3; exact hl3, World.putObj_heap_same (Array.getElem?_eq_some_iff.1 hl3).1, (World.putObj_heap_other (by omega)).trans (hk3.same _ _ (Nat.le_refl _) c3 rfl)⟩
    rintro e a3 W3 hq
    cases e with
    | normal =>
      obtain ⟨hk3, hkp3, hi3⟩ := hq
      obtain ⟨hr, hl3, hl4, hk4⟩ := fin none W3 hk3
      exact ⟨_, _, hr, .inl ⟨rfl, ⟨put _ hI hi3 hl3, hl4, hk4⟩, hKt kp (hKt (hKt hw2 hkp3) (hKb _ _ _ hl3 rfl rfl))⟩⟩
    | ret =>
      obtain ⟨hk3, hi3⟩ := hq
      obtain ⟨hr, hl3, hl4, hk4⟩ := fin (some .ret) W3 hk3
      exact ⟨_, _, hr, .inr ⟨rfl, .ret, put _ (hIx _) hi3 hl3, hl4, hk4⟩⟩
    | exit id =>
      obtain ⟨hk3, hi3⟩ := hq
      obtain ⟨hr, hl3, hl4, hk4⟩ := fin (some (.exit id)) W3 hk3
      exact ⟨_, _, hr, .inr ⟨rfl, .exit id, put _ (hIx _) hi3 hl3, hl4, hk4⟩⟩
    | goto t =>
      obtain ⟨hk3, hi3⟩ := hq
      obtain ⟨hr, hl3, hl4, hk4⟩ := fin (some (.goto t)) W3 hk3
      exact ⟨_, _, hr, .inr ⟨rfl, .goto t, put _ (hIx _) hi3 hl3, hl4, hk4⟩⟩
    | panic ch => exact hq.elim
    | outgrown => exact hq.elim
  · rintro e B ⟨⟨v, rfl⟩, (⟨ys, hks, h1, h2, h3⟩ | ⟨ys, pre, hks, hpre, c, h1, h2, h3⟩)⟩
    · exact ⟨none, _, by have := run_endLoop (P := P) h2 (by rw [hrec]; simp); rw [hrec] at this; exact this, hdone _ ys _ (Nat.le_refl _) hks (put _ hI h1 h2) ((World.putObj_heap_other (by omega)).trans h3)⟩
    · exact ⟨some c, _, by have := run_endLoop (P := P) h2 (by rw [hrec]; simp); rw [hrec] at this; exact this, hstop _ c pre ys _ (Nat.le_refl _) hks hpre (put _ (hIx c) h1 h2) ((World.putObj_heap_other (by omega)).trans h3)⟩
end Go.Proofs.YtfiplhnplmadmaaDoor

/- Package wal: filesFrom as an iterator; segments. Conditions: at most 1000 segments. -/
namespace Go.Proofs.YtfiplhnplmadmaaDoor
open Go.RowKit Go.Shelf
attribute [local go_sem] Oper.semAt_some
set_option linter.unusedVariables false

/-- The files from first on are A's. -/
def Logs (fm : Int → Option FileM) (first : Int) (A : List WSeg) : Prop := OkA A ∧ ∀ i : Nat, (fm (first + (i : Int))).isSome = (A[i]?).isSome ∧ (getF fm (first + (i : Int))).1 = bytA A i
theorem OnD.logs {fm : Int → Option FileM} {first : Int} {A C : List WSeg} (h : OnD fm first A C) (hC : ∀ i : Nat, (C[i]?).isSome = true → (A[i]?).isSome = true) (hA : OkA A) : Logs fm first A :=
  ⟨hA, fun i => ⟨by rw [h.get]; by_cases e : (A[i]?).isSome = true <;> simp [e], by rw [h.getF hC]⟩⟩
theorem WSt.logs {s : DkS} {first : Int} {A : List WSeg} {xs : List ByteArray} (h : WSt s first A xs) : Logs s.fm first (xs.foldl appA A) := h.on.logs (fun i hi => some_run xs A i hi) (h.ok.run h.tx)
def segN (first : Int) (n : Nat) : List Int := (List.range n).map fun i : Nat => first + (i : Int)
theorem segN_len (first : Int) (n : Nat) : (segN first n).length = n := by simp [segN]
theorem segN_snoc (first : Int) (n : Nat) : segN first (n + 1) = segN first n ++ [first + (n : Int)] := by simp [segN, List.range_succ]
theorem segN_get (first : Int) (n i : Nat) (h : i < n) : (segN first n)[i]? = some (first + (i : Int)) := by simp [segN, h]
theorem segN_mem {first : Int} {n : Nat} {k : Int} : k ∈ segN first n ↔ first ≤ k ∧ k < first + (n : Int) := by
  simp only [segN, List.mem_map, List.mem_range]
  constructor
  · rintro ⟨i, hi, rfl⟩; omega
  · rintro ⟨h1, h2⟩; exact ⟨(k - first).toNat, by omega, by omega⟩
theorem segN_rises (first : Int) (n : Nat) : (segN first n).Pairwise (· < ·) := by
  rw [segN, List.pairwise_map]
  exact List.pairwise_lt_range.imp (fun h => by omega)
theorem rises_eq : ∀ {a b : List Int}, a.Pairwise (· < ·) → b.Pairwise (· < ·) → (∀ k, k ∈ a ↔ k ∈ b) → a = b
  | [], [], _, _, _ => rfl
  | [], y :: b, _, _, h => by have := (h y).2 (List.mem_cons_self ..); cases this
  | x :: a, [], _, _, h => by have := (h x).1 (List.mem_cons_self ..); cases this
  | x :: a, y :: b, ha, hb, h => by
    obtain ⟨a1, a2⟩ := List.pairwise_cons.1 ha
    obtain ⟨b1, b2⟩ := List.pairwise_cons.1 hb
    have e : x = y := by
      have h1 := (h x).1 (List.mem_cons_self ..)
      have h2 := (h y).2 (List.mem_cons_self ..)
      rcases List.mem_cons.1 h1 with e | e
      · exact e
      · rcases List.mem_cons.1 h2 with e2 | e2
        · exact e2.symm
        · have := a1 y e2; have := b1 x e; omega
    subst e
    rw [rises_eq a2 b2 fun k => ?_]
    constructor
    · intro hk
      rcases List.mem_cons.1 ((h k).1 (List.mem_cons_of_mem _ hk)) with e | e
      · subst e; have := a1 k hk; omega
      · exact e
    · intro hk
      rcases List.mem_cons.1 ((h k).2 (List.mem_cons_of_mem _ hk)) with e | e
      · subst e; have := b1 k hk; omega
      · exact e
/-- What the iterator yields: the numbers not below first. -/
def FilK (fm : Int → Option FileM) (first : Int) (c : Nat) (ys : List Int) : Prop := ∃ zs, KeysF fm zs ∧ zs.length ≤ c ∧ ys = zs.filter (fun z => decide (first ≤ z))
theorem Logs.fil {fm : Int → Option FileM} {first : Int} {A : List WSeg} (h : Logs fm first A) {c : Nat} {ys : List Int} (hf : FilK fm first c ys) : ys = segN first A.length := by
  obtain ⟨zs, ⟨h1, h2⟩, h3, rfl⟩ := hf
  refine rises_eq (h1.filter _) (segN_rises _ _) fun k => ?_
  rw [List.mem_filter, h2, segN_mem, decide_eq_true_iff]
  constructor
  · rintro ⟨h4, h5⟩
    refine ⟨h5, ?_⟩
    have h6 := (h.2 (k - first).toNat).1
    rw [show first + ((k - first).toNat : Int) = k by omega, h4] at h6
    have := (List.getElem?_eq_some_iff.1 (Option.isSome_iff_exists.1 h6.symm).choose_spec).1
    omega
  · rintro ⟨h4, h5⟩
    refine ⟨?_, h4⟩
    have h6 := (h.2 (k - first).toNat).1
    rw [show first + ((k - first).toNat : Int) = k by omega] at h6
    rw [h6, List.getElem?_eq_getElem (by omega)]; rfl
theorem flat_ints (k : IntKind) (ys : List Int) : ys.flatMap (intE k) = ys.map (fun y => Value.int k y) := by
  induction ys with
  | nil => rfl
  | cons y r ih => rw [List.flatMap_cons, ih]; rfl
/-- The block of the row that the box N holds. -/
def ownN (N : Nat) (W : World) : Option Nat := (W.cell? ⟨N, 0, none⟩).bind Value.ownBlock
/-- What a round turns: the boxes N and N + 1, the row that N holds. -/
structure KpW (N : Nat) (A B : World) : Prop where
  sz : A.heap.size ≤ B.heap.size
  keep : ∀ k cs T fr, A.heap[k]? = some (.cells cs T fr) → k ≠ N → k ≠ N + 1 → ownN N A ≠ some k → B.heap[k]? = A.heap[k]?
  own : ∀ k, ownN N B = some k → ownN N A = some k ∨ A.heap.size ≤ k
theorem KpW.trans {N : Nat} {A B C : World} (h : KpW N A B) (g : KpW N B C) : KpW N A C := by
  refine ⟨Nat.le_trans h.sz g.sz, fun k cs T fr hk h1 h2 h3 => ?_, fun k hk => ?_⟩
  · have e := h.keep k cs T fr hk h1 h2 h3
    have hl := (Array.getElem?_eq_some_iff.1 hk).1
    rw [← e]
    refine g.keep k cs T fr (e.trans hk) h1 h2 (fun ho => ?_)
    rcases h.own k ho with q | q
    · exact h3 q
    · omega
  · rcases g.own k hk with q | q
    · exact h.own k q
    · exact .inr (Nat.le_trans h.sz q)
theorem KpW.refl (N : Nat) (A : World) : KpW N A A := ⟨Nat.le_refl _, fun _ _ _ _ _ _ _ _ => rfl, fun _ h => .inl h⟩
theorem ownN_eq {N : Nat} {A B : World} (h : B.heap[N]? = A.heap[N]?) : ownN N B = ownN N A := by unfold ownN; rw [World.cell?_of_block (a := ⟨N, 0, none⟩) h]
theorem KpW.putObj {N r : Nat} {W : World} {o o' : Obj} (h : W.heap[r]? = some o) (hc : o.isCells = false) (hr : N ≠ r) : KpW N W (W.putObj r o') := by
  refine ⟨by simp [World.putObj], fun k cs T fr hk _ _ _ => World.putObj_heap_other (fun e => ?_), fun k hk => .inl ?_⟩
  · subst e; rw [h] at hk; cases hk; cases hc
  · rw [← hk]; exact (ownN_eq (World.putObj_heap_other hr)).symm
theorem KpW.grown {N : Nat} {A B : World} (hg : A.grownBy B none) (hN : N < A.heap.size) : KpW N A B := by
  refine ⟨hg.size, fun k cs T fr hk _ _ _ => hg.block k (Array.getElem?_eq_some_iff.1 hk).1 (fun e => nomatch e), fun k hk => .inl ?_⟩
  rw [← hk]; exact (ownN_eq (hg.block N hN (fun e => nomatch e))).symm
theorem Boxed.blkW {W : World} {B : Nat} {t : TypeId} {v : Value} (h : Boxed W B t v) : Blk W B t #[v] := h
theorem ownN_of {N : Nat} {W : World} {T : TypeId} {v : Value} (h : Boxed W N T v) : ownN N W = v.ownBlock := by unfold ownN; rw [h.cell]; rfl
def QpD (base d c : Nat) (s : DkS) (A B : World) : Prop := ButD base A B ∧ DObj base B d c s
theorem QpD.keep {base d c : Nat} {s : DkS} {A B : World} (h : QpD base d c s A B) (k : Nat) (o : Obj) (ho : A.heap[k]? = some o) (h1 : o.isCells = false) (h2 : o.isWalk = false) : B.heap[k]? = some o := by
  rw [← ho]
  refine h.1.block k (Array.getElem?_eq_some_iff.1 ho).1 (fun hs => ?_)
  rcases hs.2 with ⟨cs, T, fr, e, _⟩ | ⟨es, cl, e⟩
  · rw [ho] at e; cases e; cases h1
  · rw [ho] at e; cases e; cases h2
theorem int_off : offD 3 := by decide
theorem boxD {base : Nat} {w x : World} {B : Nat} {T : TypeId} {v : Value} (h : Boxed w B T v) (hT : offD T) (hb : ButD base w x) : Boxed x B T v := blkD (h : Blk w B T #[v]) hT hb

set_option maxRecDepth 100000 in
set_option maxHeartbeats 4000000 in
theorem ff_in {base d c : Nat} {s : DkS} (l N : Nat) (first : Int) (Bd Bf : Nat) (J Jx : List Int → World → Prop) (hc : c ≤ 1000000)
    (hJ : ∀ pre A B, J pre A → A.grownBy B none → J pre B) (hJQ : ∀ pre A B, J pre A → QpD base d c s A B → J pre B)
    (hY : ∀ pre x A ys, J pre A → FilK s.fm first c ys → (pre ++ [x]) <+: ys → YieldAt Fence.wide 1 Tryd.prog l #[.int .i64 x] A fun e B => (e = .returned (.bool true) ∧ J (pre ++ [x]) B ∧ KpW N A B) ∨ (e = .returned (.bool false) ∧ Jx (pre ++ [x]) B))
    (W : World) (hN : N + 1 < W.heap.size) (hNo : ownN N W = none) (hNt : ∃ T v, offD T ∧ Boxed W N T v) (hBd : Boxed W Bd 25 (pt d 0)) (hBf : Boxed W Bf 3 (.int .i64 first)) (hf1 : Bf ≠ N ∧ Bf ≠ N + 1) (hD : DObj base W d c s) (h0 : J [] W) :
    CallsIn Fence.wide 2 Tryd.prog 62 #[.func (.yield l) #[] #[], .pointer (some ⟨Bd, 0, none⟩), .pointer (some ⟨Bf, 0, none⟩)] W fun e B => (∃ v, e = .returned v) ∧ ((∃ ys, FilK s.fm first c ys ∧ J ys B) ∨ ∃ ys pre, FilK s.fm first c ys ∧ pre <+: ys ∧ Jx pre B) := by
  have cd := hBd.cell
  simp only [pt] at cd
  have HJ := Lib.hid hJ; have HJQ := Lib.hid hJQ; have HY := Lib.hid hY; have HNO := Lib.hid hNo; have HNT := Lib.hid hNt; have HBD := Lib.hid hBd; have HBF := Lib.hid hBf; have HF1 := Lib.hid hf1; have HD := Lib.hid hD; have H0 := Lib.hid h0
  clear hJ hJQ hY hNo hNt hBd hBf hf1 hD h0
  refine callsIn_of_wp Tryd.func62 rfl trivial ?_ rfl
  simp only [Tryd.ntmps62, List.size_toArray, List.length_cons, List.length_nil, Nat.reduceAdd, Nat.reduceSub, Array.replicate_succ, Array.replicate_zero, List.push_toArray, List.append_toArray, List.nil_append, List.cons_append]
  have h1 : 1 ≤ (2 : Nat) := by omega
  gi_wp2_with fail
  refine ⟨trivial, ?_⟩
  gi_at_call 26
  refine (callsIn_wide.2 (tFiles W HD.out hc)).mono ?_
  rintro e9 w2 ⟨ys, u, rfl, hrow, hK, hlen, hD2, hb9⟩
  obtain ⟨ao, cap, hu, hmax, hat⟩ := row_view hrow
  subst hu
  have HROW := Lib.hid hrow; have HK := Lib.hid hK; have HD2 := Lib.hid hD2; have HB9 := Lib.hid hb9; have HAT := Lib.hid hat
  clear hrow hK hD2 hb9 hat
  gi_wp2_with fail
  gi_loopw [9] (fun p wr => ∃ i : Nat, p = .int .i64 (i : Int) ∧ i ≤ ys.length ∧ J ((ys.take i).filter (fun z => decide (first ≤ z))) wr ∧ wr.ownsRow W.heap.size 3 1 (.slice ao ys.length cap) ys.length (ys.flatMap (intE .i64)) ∧ Boxed wr Bf 3 (.int .i64 first) ∧ (∀ k, ownN N wr = some k → w2.heap.size ≤ k) ∧ w2.heap.size ≤ wr.heap.size)
    (fun p wr => ys.length - (intOf p).toNat)
  case atStart =>
    have hb9 := HB9.out
    have hN2 : ownN N w2 = none := by
      obtain ⟨T, v, hT, hv⟩ := HNT.out
      have h2 := boxD hv hT hb9
      have e1 := ownN_of h2; have e2 := ownN_of hv
      rw [e1, ← e2]; exact HNO.out
    exact ⟨0, rfl, Nat.zero_le _, by simpa using HJQ.out [] W w2 H0.out ⟨hb9, HD2.out⟩, HROW.out, boxD HBF.out int_off hb9, fun k hk => (by rw [hN2] at hk; cases hk), Nat.le_refl _⟩
  case round =>
    obtain ⟨i, rfl, hi, hJi, hrow, hbf, hown, hsz⟩ := hrel
    have hf9 := hbf.cell
    by_cases hlt : i < ys.length
    · obtain ⟨y, hy⟩ : ∃ y, ys[i]? = some y := ⟨_, List.getElem?_eq_getElem hlt⟩
      have hcell : ∃ g, ao = some ⟨g, 0, none⟩ ∧ wr.cell? ⟨g, i, none⟩ = some (.int .i64 y) := by
        obtain ⟨ao', c', e, -, h9⟩ := row_view hrow
        cases e
        obtain ⟨g, e1, -, e2⟩ := h9 i hlt
        exact ⟨g, e1, by rw [e2, flat_ints, List.getElem?_map, hy]; rfl⟩
      obtain ⟨g, rfl, hg⟩ := hcell
      have HY1 := Lib.hid hy; have HJI := Lib.hid hJi; have HR := Lib.hid hrow; have HBF1 := Lib.hid hbf; have HOW := Lib.hid hown; have HSZ := Lib.hid hsz
      clear hy hJi hrow hbf hown
      have hsn : (ys.take (i + 1)).filter (fun z => decide (first ≤ z)) = (ys.take i).filter (fun z => decide (first ≤ z)) ++ (if first ≤ y then [y] else []) := by
        rw [List.take_add_one, HY1.out, List.filter_append]
        congr 1
        by_cases h : first ≤ y <;> simp [h]
      by_cases hfy : first ≤ y
      · rw [if_pos hfy] at hsn
        have hpre : ((ys.take i).filter (fun z => decide (first ≤ z))) ++ [y] <+: ys.filter (fun z => decide (first ≤ z)) := by
          rw [← hsn]; exact (List.take_prefix _ _).filter _
        obtain ⟨fn, tmps, asg, body, hy9, hR⟩ := HY.out _ y wr _ HJI.out ⟨ys, HK.out, hlen, rfl⟩ hpre
        have HSN := Lib.hid hsn; clear hsn hpre
        gi_wp2
        refine hR.mono ?_
        rintro e8 W3 (⟨rfl, hJ3, hk3⟩ | ⟨rfl, hJx3⟩)
        · have HJ3 := Lib.hid hJ3; have HK3 := Lib.hid hk3; clear hJ3 hk3 hy9
          gi_wp2
          go_roundw
          case rel =>
            have hk := HK3.out
            have hrow := HR.out
            have hr3 : W3.ownsRow W.heap.size 3 1 (.slice (some ⟨g, 0, none⟩) ys.length cap) ys.length (ys.flatMap (intE .i64)) := by
              refine row_same hrow hk.sz (fun j hj => ?_)
              obtain ⟨cs, hcs⟩ := row_block hrow hj
              have h2 := ((HROW.out).lt j hj)
              exact hk.keep j cs _ _ hcs (by omega) (by omega) (fun ho => by have := HOW.out j ho; omega)
            have hf3 : Boxed W3 Bf 3 (.int .i64 first) := by
              have h2 := (HBF.out).lt
              have h3 := HBF1.out
              unfold Boxed at h3 ⊢
              rw [hk.keep Bf _ _ _ h3 HF1.out.1 HF1.out.2 (fun ho => by have := HOW.out Bf ho; have := (HB9.out).size; omega)]; exact h3
            exact ⟨i + 1, rfl, by omega, by rw [HSN.out]; exact HJ3.out, hr3, hf3, fun k hk2 => (by rcases hk.own k hk2 with q | q; exact HOW.out k q; have := HSZ.out; omega), by have := hk.sz; have := HSZ.out; omega⟩
          case measure =>
            show ys.length - (((i : Int) + 1).toNat) < ys.length - (i : Int).toNat
            omega
        · have HX := Lib.hid hJx3; clear hJx3 hy9
          gi_wp2
          refine bodyPost_ret (results_none rfl _ _ _) rfl ?_
          exact ⟨⟨_, rfl⟩, .inr ⟨_, _, ⟨ys, HK.out, hlen, rfl⟩, by rw [← HSN.out]; exact (List.take_prefix _ _).filter _, HX.out⟩⟩
      · rw [if_neg hfy, List.append_nil] at hsn
        have HSN := Lib.hid hsn; clear hsn
        gi_wp2
        all_goals refine ⟨by first | trivial | exact fun _ h => (by cases h), ?_⟩
        all_goals gi_wp2
        refine ⟨⟨i + 1, rfl, by omega, by rw [HSN.out]; exact HJI.out, HR.out, HBF1.out, HOW.out, HSZ.out⟩, ?_⟩
        show ys.length - (((i : Int) + 1).toNat) < ys.length - (i : Int).toNat
        omega
    · have hq : i = ys.length := by omega
      subst hq
      rw [List.take_length] at hJi
      have HJI := Lib.hid hJi; clear hJi hrow hbf hown
      gi_wp2
      go_end0
      exact ⟨⟨_, rfl⟩, .inl ⟨_, ⟨ys, HK.out, hlen, rfl⟩, HJI.out⟩⟩
end Go.Proofs.YtfiplhnplmadmaaDoor

/- Package wal: segments. Conditions: at most 1000 segments. -/
namespace Go.Proofs.YtfiplhnplmadmaaDoor
open Go.RowKit Go.Shelf
attribute [local go_sem] Oper.semAt_some
set_option linter.unusedVariables false

theorem filesFrom_any (d : Nat) (first : Int) (w : World) :
    CallsIn Fence.wide 2 Tryd.prog 46 #[.pointer (some ⟨d, 0, none⟩), .int .i64 first] w fun e w' => e = .returned (.func (.func 62) #[] #[.pointer (some ⟨w.heap.size, 0, none⟩), .pointer (some ⟨w.heap.size + 1, 0, none⟩)]) ∧
      w' = (w.alloc (.cells #[.pointer (some ⟨d, 0, none⟩)] 25)).alloc (.cells #[.int .i64 first] 3) := by
  refine callsIn_of_wp Tryd.func46 rfl trivial ?_ rfl
  simp only [Tryd.ntmps46, List.size_toArray, List.length_cons, List.length_nil, Nat.reduceAdd, Nat.reduceSub, Array.replicate_succ, Array.replicate_zero, List.push_toArray, List.append_toArray, List.nil_append, List.cons_append]
  gi_wp2
  go_ret
  exact ⟨rfl, rfl⟩
theorem ff_seq {base d c : Nat} {s : DkS} (N : Nat) (first : Int) (Bd Bf : Nat) (hc : c ≤ 1000000) (w : World) (hN : N + 1 < w.heap.size) (hNo : ownN N w = none) (hNt : ∃ T v, offD T ∧ Boxed w N T v) (hBd : Boxed w Bd 25 (pt d 0)) (hBf : Boxed w Bf 3 (.int .i64 first)) (hf1 : Bf ≠ N ∧ Bf ≠ N + 1) (hD : DObj base w d c s) :
    SeqQ Tryd.prog 62 #[.pointer (some ⟨Bd, 0, none⟩), .pointer (some ⟨Bf, 0, none⟩)] (fun y : Int => #[.int .i64 y]) (KpW N) (QpD base d c s) (FilK s.fm first c) w := by
  intro l J Jx W hW hsz hJ hJx hJQ hY h0
  have hg := below_grown hW
  have kp : ∀ {B T v}, Boxed w B T v → Boxed W B T v := fun h => Boxed.kept h hg (fun e => nomatch e)
  refine ff_in l N first Bd Bf J Jx hc hJ hJQ hY W (by omega) ?_ ?_ (kp hBd) (kp hBf) hf1 (hD.call hW) h0
  · rw [ownN_eq (hW.block N (by omega))]; exact hNo
  · obtain ⟨T, v, h1, h2⟩ := hNt; exact ⟨T, v, h1, kp h2⟩
theorem wpListIn_append_went {F : Fence} {n : Nat} {P : Program} (w : World) {ops : Array Oper} {rest : List Oper} {o : Oper} {a : Act} {Q : Exit → Act → World → Prop}
    (hg : o.guard = none) (s x : Operand) (t : TypeId) (hop : o.op = Op.call { callee := Callee.builtin Builtin.append, args := #[s, x], argTypes := #[t, t] })
    (base : Nat) (e : TypeId) (i : TypeInfo) (z : Value) (size bytes : Nat) (h1 : P.underlying t = some (.slice e)) (h2 : P.info? e = some i) (h3 : i.zero = some z) (h4 : i.size = size) (h5 : i.bytes = bytes) (h6 : z.cells.size = size) (h7 : 0 < size)
    (v : Value) (k : Nat) (xs : List Value) (hs : a.eval s = v) (hown : w.ownsRow base e size v k xs) (ad : Addr) (m c : Nat) (news : List Value) (hx : a.eval x = .slice (some ad) m c) (hn : news.length = m * size)
    (hc : ∀ j u, news[j]? = some u → w.cell? (ad.add j) = some u) (h1c : ∀ u ∈ news, u.oneCell' = true) (b1 : k + m ≤ maxLen) (b2 : (k + m) * bytes ≤ 140737488355328) (b3 : base ≤ w.heap.size)
    (hK : ∀ v' w', w'.ownsRow base e size v' (k + m) (xs ++ news) → w.grownBy w' v.ownBlock → Went w v v' → wpListIn F n P ops Q rest (a.put o.dst v') w') :
    wpListIn F n P ops Q (o :: rest) a w := by
  refine wpListIn_plain hg fun K hK' => ?_
  obtain ⟨v', w', hrun, r1, r2, r3⟩ := run_append_went (P := P) w base t o.type e i z size bytes h1 h2 h3 h4 h5 h6 h7 v k xs hown ad m c news hn hc h1c b1 b2 b3
  unfold Oper.wpIn
  refine ⟨?_, ?_⟩
  · simp [Oper.about, hop, resolve, Target.leads, Sem.run_pure]
  · rw [Oper.semAt_plain F _ _ (by rw [hop]; intro c hc'; cases hc')]
    simp [execOp, hop, resolve, invoke, builtin, hs, hx, hrun, Result.andThen]
    exact hK' _ _ (hK v' w' r1 r2 r3)
/-- What the walk of segments holds between rounds. -/
structure SgI (base d c : Nat) (s : DkS) (first : Int) (w : World) (N : Nat) (pre : List Int) (W : World) : Prop where
  row : ∃ v, Boxed W N 53 v ∧ W.ownsRow (N + 2) 3 1 v pre.length (pre.flatMap (intE .i64))
  nxt : Boxed W (N + 1) 3 (.int .i64 (first + (pre.length : Int)))
  obj : DObj base W d c s
  but : ButD base w W
theorem noty_of {W : World} {r : Nat} {o : Obj} (h : W.heap[r]? = some o) (h1 : o.isCells = false) (h2 : o.isWalk = false) : ¬ TyS W r := by
  rintro (⟨cs, T, fr, e, _⟩ | ⟨es, cl, e⟩)
  · rw [h] at e; cases e; cases h1
  · rw [h] at e; cases e; cases h2
theorem But.grown {S : Nat → Prop} {w W W' : World} {row : Option Nat} (h : But S w W) (hg : W.grownBy W' row) (hr : ∀ r, row = some r → w.heap.size ≤ r) : But S w W' :=
  ⟨hg.os.trans h.os, hg.tape.trans h.tape, hg.output.trans h.output, Nat.le_trans h.size hg.size, fun k hk hs => (hg.block k (Nat.lt_of_lt_of_le hk h.size) (fun e => by have := hr k e.symm; omega)).trans (h.block k hk hs)⟩
theorem row_noncells {W W' : World} {row : Option Nat} {B sz k : Nat} {e : TypeId} {v : Value} {xs : List Value} (h : W.ownsRow B e sz v k xs) (hg : W.grownBy W' row) (hr : ∀ r, row = some r → ∃ o : Obj, W.heap[r]? = some o ∧ o.isCells = false) : W'.ownsRow B e sz v k xs := by
  refine row_same h hg.size (fun i hi => hg.block i (h.lt i hi).2 (fun e1 => ?_))
  obtain ⟨o, h1, h2⟩ := hr i e1.symm
  obtain ⟨cs, h3⟩ := row_block h hi
  rw [h3] at h1; cases h1; cases h2
theorem info_intS : (Tryd.prog.info? 3).map (fun i => (i.zero, i.size, i.bytes)) = some (some (.int .i64 0), 1, 8) := by kernel_rfl
theorem boxed_non {W W' : World} {row : Option Nat} {B : Nat} {T : TypeId} {v : Value} (h : Boxed W B T v) (hg : W.grownBy W' row) (hr : ∀ r, row = some r → ∃ o : Obj, W.heap[r]? = some o ∧ o.isCells = false) : Boxed W' B T v :=
  h.kept hg (fun e => by
    obtain ⟨o, ho, hc⟩ := hr B e.symm
    unfold Boxed at h; rw [h] at ho; cases ho; cases hc)
theorem SgI.shut {base d c : Nat} {s : DkS} {first : Int} {w : World} {N B : Nat} (hB : w.heap.size ≤ B) : ShutQ B (SgI base d c s first w N) := by
  rintro pre W W' row ⟨⟨v, h1, h2⟩, h3, h4, h5⟩ hg hr
  have hr2 : ∀ r, row = some r → ∃ o : Obj, W.heap[r]? = some o ∧ o.isCells = false := fun r e => by obtain ⟨_, o, ho, hc, _⟩ := hr r e; exact ⟨o, ho, hc⟩
  exact ⟨⟨v, boxed_non h1 hg hr2, row_noncells h2 hg hr2⟩, boxed_non h3 hg hr2,
    h4.gr hg (fun r e => by obtain ⟨_, o, ho, hc, hw⟩ := hr r e; exact noty_of ho hc hw), h5.grown hg (fun r e => by have := (hr r e).1; omega)⟩
theorem butD_tr {base : Nat} {w A B : World} (h : ButD base w A) (g : ButD base A B) : ButD base w B :=
  h.trans' g (fun i hi hs => ⟨hs.1, by
    by_cases ht : TyS w i
    · exact ht
    · have e := h.block i hi (fun hq => ht hq.2)
      have h2 := hs.2
      unfold TyS at h2; rw [e] at h2; exact h2⟩)
theorem SgI.turn {base d c : Nat} {s : DkS} {first : Int} {w : World} {N : Nat} {pre : List Int} {A B : World} (h : SgI base d c s first w N pre A) (hq : QpD base d c s A B) : SgI base d c s first w N pre B := by
  obtain ⟨⟨v, h1, h2⟩, h3, h4, h5⟩ := h
  exact ⟨⟨v, boxD h1 (by decide) hq.1, rowD h2 int_off hq.1⟩, boxD h3 int_off hq.1, hq.2, butD_tr h5 hq.1⟩
set_option maxRecDepth 100000 in
set_option maxHeartbeats 4000000 in
theorem segments_any {base d c : Nat} {s : DkS} (first : Int) (A : List WSeg) (w : World) (hD : DObj base w d c s) (hc : c ≤ 1000000) (hL : Logs s.fm first A) (h1 : 1 ≤ first ∧ first ≤ 1073741824) (hA : A.length ≤ 100000) :
    Calls Tryd.prog 30 #[pt d 0, .int .i64 first] w fun e w' => ∃ u, e = .returned u ∧ w'.ownsRow w.heap.size 3 1 u A.length ((segN first A.length).flatMap (intE .i64)) ∧ DObj base w' d c s ∧ ButD base w w' := by
  obtain ⟨N, hN⟩ : ∃ N, N = w.heap.size := ⟨_, rfl⟩
  refine (callsIn_wide (n := 3)).1 ?_
  refine callsIn_of_wp_marks Tryd.func30 rfl trivial ?_ rfl
  simp only [pt, Tryd.ntmps30, List.size_toArray, List.length_cons, List.length_nil, Nat.reduceAdd, Nat.reduceSub, Array.replicate_succ, Array.replicate_zero, List.push_toArray, List.append_toArray, List.nil_append, List.cons_append]
  have h1' : 1 ≤ (3 : Nat) := by omega
  rw [← hN]
  have HN := Lib.hid hN; have HD := Lib.hid hD; have HL := Lib.hid hL
  clear hN hD hL
  gi_wp2
  refine wpIn_wide.2 ?_
  go_step3
  go_wp2
  go_step3
  go_wp2_with fail
  refine ((callsIn_wide (n := 2)).1 (filesFrom_any d first _)).mono ?_
  rintro e w' ⟨rfl, rfl⟩
  go_wp2_with fail
  obtain ⟨i0, hi, hz0, hz1, hz2⟩ := info_parts info_intS
  have bL := (((Boxed.new w 53 (.slice none 0 0)).alloc (.cells #[.int .i64 first] 3)).alloc (.cells #[.pointer (some ⟨d, 0, none⟩)] 25)).alloc (.cells #[.int .i64 first] 3)
  have bN := ((Boxed.new (w.alloc (.cells #[.slice none 0 0] 53)) 3 (.int .i64 first)).alloc (.cells #[.pointer (some ⟨d, 0, none⟩)] 25)).alloc (.cells #[.int .i64 first] 3)
  have bD := (Boxed.new ((w.alloc (.cells #[.slice none 0 0] 53)).alloc (.cells #[.int .i64 first] 3)) 25 (.pointer (some ⟨d, 0, none⟩))).alloc (.cells #[.int .i64 first] 3)
  have bF := Boxed.new (((w.alloc (.cells #[.slice none 0 0] 53)).alloc (.cells #[.int .i64 first] 3)).alloc (.cells #[.pointer (some ⟨d, 0, none⟩)] 25)) 3 (.int .i64 first)
  have hB0 : Below w.heap.size w ((((w.alloc (.cells #[.slice none 0 0] 53)).alloc (.cells #[.int .i64 first] 3)).alloc (.cells #[.pointer (some ⟨d, 0, none⟩)] 25)).alloc (.cells #[.int .i64 first] 3)) := ((((Below.refl _ w).alloc (Nat.le_refl _) _).alloc (by simp) _).alloc (by simp; omega) _).alloc (by simp; omega) _
  have hsz : ((((w.alloc (.cells #[.slice none 0 0] 53)).alloc (.cells #[.int .i64 first] 3)).alloc (.cells #[.pointer (some ⟨d, 0, none⟩)] 25)).alloc (.cells #[.int .i64 first] 3)).heap.size = w.heap.size + 4 := by simp
  simp only [World.size_alloc] at bN bD bF ⊢
  rw [← HN.out] at bL bN bD bF hB0 hsz ⊢
  obtain ⟨W0, hW0⟩ : ∃ W0, ((((w.alloc (.cells #[.slice none 0 0] 53)).alloc (.cells #[.int .i64 first] 3)).alloc (.cells #[.pointer (some ⟨d, 0, none⟩)] 25)).alloc (.cells #[.int .i64 first] 3)) = W0 := ⟨_, rfl⟩
  rw [hW0] at bL bN bD bF hB0 hsz ⊢
  clear hW0
  rw [HN.out] at hB0
  have hD0 := HD.out.call hB0
  have hwN : w.heap.size = N := HN.out.symm
  refine (wpIn_wide (n := 3)).1 ?_
  refine rf_q (gf := 62) (lb := #[.pointer (some ⟨N + 1 + 1, 0, none⟩), .pointer (some ⟨N + 1 + 1 + 1, 0, none⟩)]) rfl (enters_of Tryd.func62 (by kernel_rfl) rfl)
    (ff_seq (base := base) (d := d) (c := c) (s := s) N first (N + 1 + 1) (N + 1 + 1 + 1) hc W0 (by omega) (by rw [ownN_of bL]; rfl) ⟨_, _, by decide, bL⟩ bD bF (by omega) hD0) (fun _ => rfl) KpW.trans (fun W o o' h h1 h2 => KpW.putObj h h1 (by omega)) (fun A B h => h.keep)
    (SgI base d c s first w N) (fun _ _ _ => False) (SgI.shut (by omega)) (fun pre A B h hq => h.turn hq) (fun _ _ _ _ _ h => h.elim)
    ⟨⟨_, bL, World.ownsRow_nil _ _ _ _⟩, by simpa using bN, hD0, But.of_below hB0⟩
    (fun x a' _ => a' = { tmps := #[.pointer (some ⟨d, 0, none⟩), .int .i64 first, undef, undef, .slice none 0 0, .pointer (some ⟨N, 0, none⟩), .pointer (some ⟨N + 1, 0, none⟩), .int .i64 x, .int .i64 first, .pointer (some ⟨d, 0, none⟩), .int .i64 first, .func (.func 62) #[] #[.pointer (some ⟨N + 1 + 1, 0, none⟩), .pointer (some ⟨N + 1 + 1 + 1, 0, none⟩)], .int .i64 x, undef, undef, undef, undef, undef, undef, undef, undef, undef, undef], defers := [] })
    (fun _ _ _ _ _ _ h _ _ => h) ?assign ?body ?done ?stop
  case assign =>
    intro l pre x W K hlt hI hK
    gi_wp2
    exact hK _ _ (KeepsFrom.refl _ _) (KpW.refl _ _) hI rfl
  case stop => intro D c' pre ys W _ _ _ h; exact h.elim
  case body =>
    rintro l pre x a' W rfl ⟨r, hr⟩ ⟨⟨v, hv, hrow⟩, hn, hobj, hbut⟩ rfl ⟨ys, hks, hp⟩
    have hys := HL.out.fil hks
    subst hys
    have hlt : pre.length < A.length := by have := hp.length_le; rw [List.length_append, segN_len] at this; simp at this; omega
    have hx : x = first + (pre.length : Int) := by
      obtain ⟨tl, htl⟩ := hp
      have h1 : (segN first A.length)[pre.length]? = some x := by rw [← htl, List.append_assoc, List.getElem?_append_right (Nat.le_refl _)]; simp
      rw [segN_get _ _ _ hlt] at h1; exact (Option.some.inj h1).symm
    subst hx
    have hWs : N + 5 < W.heap.size := by have := (Array.getElem?_eq_some_iff.1 hr).1; omega
    have cv := hv.cell; have cn := hn.cell; have fv := hv.frozen; have fn := hn.frozen
    have HOB := Lib.hid hobj; have HBU := Lib.hid hbut; have HP := Lib.hid hp; have HKS := Lib.hid hks
    clear hobj hbut hp hks
    gi_wp2_with (gi_at_builtin; refine wpListIn_append_went _ rfl _ _ 53 rfl (N + 2) 3 i0 (.int .i64 0) 1 8 Tryd.underlying53 hi hz0 hz1 hz2 rfl (by decide) _ _ _ rfl (hrow.alloc _) ⟨W.heap.size, 0, none⟩ 1 1 [.int .i64 (first + (pre.length : Int))] rfl rfl (cell_one_new _ _ _) (by simp [Value.oneCell']) (by unfold maxLen; omega) (by omega) (by simp; omega) ?_; intro v' w1 hown' hgrow hwent; obtain ⟨g', cap', rfl⟩ := ownsRow_succ hown'; replace hwent : Went (W.alloc (.cells #[.int .i64 (first + (pre.length : Int))] 3)) v (.slice (some ⟨g', 0, none⟩) (pre.length + 1) cap') := hwent; replace hgrow : (W.alloc (.cells #[.int .i64 (first + (pre.length : Int))] 3)).grownBy w1 v.ownBlock := hgrow; obtain ⟨p1, p2, p3, p4, p5⟩ := hv.appended (by decide) (own_lowI hrow (B' := N) (by omega)) (by omega) (Nat.le_refl _) (own_lowI hown' (B' := N) (by omega)) hgrow; have hn1 := ((hn.alloc (.cells #[.int .i64 (first + (pre.length : Int))] 3)).kept hgrow (fun e => by have := own_blockI hrow _ e.symm; omega)).other (B' := N) (by omega) (.slice (some ⟨g', 0, none⟩) (pre.length + 1) cap'); have hc1 := p1.cell; have hf1 := p1.frozen; have hc2 := hn1.cell; have hf2 := hn1.frozen)
    have g3 := grownBy_setCell' (w1.setCell ⟨N, 0, none⟩ (.slice (some ⟨g', 0, none⟩) (pre.length + 1) cap')) (N + 1) (.int .i64 (first + (pre.length : Int) + 1))
    have hsz1 : W.heap.size ≤ w1.heap.size := by have := hgrow.size; simp at this; omega
    have hblk : ∀ k, k < W.heap.size → k ≠ N → k ≠ N + 1 → v.ownBlock ≠ some k → ((w1.setCell ⟨N, 0, none⟩ (.slice (some ⟨g', 0, none⟩) (pre.length + 1) cap')).setCell ⟨N + 1, 0, none⟩ (.int .i64 (first + (pre.length : Int) + 1))).heap[k]? = W.heap[k]? := by
      intro k hk h1 h2 h3
      rw [g3.block k (by simp; omega) (by simpa using h2), (grownBy_setCell' w1 N _).block k (by omega) (by simpa using h1), hgrow.block k (by simp; omega) (fun e => h3 e.symm)]
      exact (World.grownBy_alloc W _ none).block k hk (fun e => nomatch e)
    have p3' := (hown'.kept (grownBy_setCell' w1 N (.slice (some ⟨g', 0, none⟩) (pre.length + 1) cap')) (.inr (p1.not_row (by decide) hown').symm)).kept g3 (.inr (fun e => by have := own_blockI hown' _ e; omega))
    have hl1 : (pre ++ [first + (pre.length : Int)]).length = pre.length + 1 := by simp
    refine ⟨(p4.trans (KeepsOthers.setCell _ _ _)).from _, ⟨by simp; omega, fun k cs T fr hk h1 h2 h3 => hblk k (Array.getElem?_eq_some_iff.1 hk).1 h1 h2 (fun e => h3 ((ownN_of hv).trans e)), fun k hk => ?_⟩, ⟨⟨_, p2.other (by omega) _, ?_⟩, ?_, ?_, ?_⟩⟩
    · rw [ownN_of (p2.other (by omega) _)] at hk
      rcases hwent with e | e
      · exact .inl ((ownN_of hv).trans (e ▸ hk))
      · have := e k hk; simp at this; exact .inr (by omega)
    · rw [hl1, List.flatMap_append]; exact p3'
    · rw [hl1, show first + ((pre.length + 1 : Nat) : Int) = first + (pre.length : Int) + 1 by omega]; exact hn1.set _
    · refine (((HOB.out.gr (World.grownBy_alloc W _ none) (fun r e => nomatch e)).gr hgrow (fun r e => ?_)).gr (grownBy_setCell' w1 N _) (fun r e => ?_)).gr g3 (fun r e => ?_)
      · obtain ⟨cs, h3⟩ := row_block (hrow.alloc (.cells #[.int .i64 (first + (pre.length : Int))] 3)) e
        exact not_ty h3 int_off
      · cases e; exact not_ty (p1 : _ = _) (by decide)
      · cases e; exact not_ty (hn1 : _ = _) int_off
    · refine (((HBU.out.grown (World.grownBy_alloc W _ none) (fun r e => nomatch e)).grown hgrow (fun r e => ?_)).grown (grownBy_setCell' w1 N _) (fun r e => ?_)).grown g3 (fun r e => ?_)
      · have := own_blockI hrow _ e; omega
      · cases e; omega
      · cases e; omega
  case done =>
    rintro D ys W hDw hks ⟨⟨v, hv, hrow⟩, hn, hobj, hbut⟩ hdef
    have hys := HL.out.fil hks
    subst hys
    obtain ⟨ao, n, cap, rfl⟩ := own_slice hrow
    have cv := hv.cell
    have HROW := Lib.hid hrow; have HOB := Lib.hid hobj; have HBU := Lib.hid hbut; have HDF := Lib.hid hdef; have HV := Lib.hid hv
    clear hrow hobj hbut hn hks hdef
    go_wp2
    rw [Exit.noGoto_ret]
    refine ⟨by simp, .inl ⟨_, _, rfl, run_takeDeferred (w := W) HDF.out, ?_⟩⟩
    have hg := fun (o : Obj) => grownBy_putObj' W D o
    have hnt : ¬ TyS W D := noty_of HDF.out rfl rfl
    refine ⟨_, results_tmp rfl _ _ _, _, rfl, ?_, HOB.out.gr (hg _) (fun r e => by cases e; exact hnt), HBU.out.grown (hg _) (fun r e => by cases e; omega)⟩
    have h := ownsRow_putObj (W := W) (own_lowI HROW.out (B' := w.heap.size) (by omega)) (.deferred none) HDF.out rfl
    rw [segN_len, hwN] at h
    exact h
end Go.Proofs.YtfiplhnplmadmaaDoor

/- Package wal: here, Open, Append, Last, Read. Conditions: files of at most 2^43 bytes; at most 100000 segments. -/
namespace Go.Proofs.YtfiplhnplmadmaaDoor
open Go.RowKit Go.PlainAid Go.Shelf
set_option linter.unusedVariables false

theorem tab_butD {base : Nat} {w x : World} (h : Tab w) (hb : ButD base w x) (h0 : 0 < base) : Tab x := fun i hi => by
  have h1 := h i hi
  rw [← h1]; exact World.cell?_of_block (hb.block 0 (World.block_lt_of_cell? w _ h1) (fun hs => by have := hs.1; omega))
theorem dat_seg {fm : Int → Option FileM} {first : Int} {A : List WSeg} (h : Logs fm first A) {i : Nat} {y : WSeg} (hy : A[i]? = some y) : datF fm (first + (i : Int)) = y.b := by
  apply bytes_eq
  unfold datF
  rw [(h.2 i).2]; unfold bytA; rw [hy]; rfl
theorem hereA_snoc {first : Int} {A : List WSeg} {y : WSeg} (hy : A[A.length - 1]? = some y) (h0 : A ≠ []) : hereA first A = if fullS y = true then first + (A.length : Int) else first + ((A.length - 1 : Nat) : Int) := by
  unfold hereA atA
  rw [List.getLast?_eq_getElem?, hy]
  show first + (((if fullS y = true then A.length else A.length - 1) : Nat) : Int) = _
  split <;> rfl
/-- What is asked of a log to be read. -/
structure LogR (base d c : Nat) (s : DkS) (first : Int) (A : List WSeg) (w : World) : Prop where
  obj : DObj base w d c s
  c6 : c ≤ 1000000
  log : Logs s.fm first A
  fst : 1 ≤ first ∧ first ≤ 1073741824
  len : A.length ≤ 100000
  sz : ∀ y ∈ A, y.b.size ≤ 1000000000
  txt : (txtA A).length ≤ 1000000
  tab : Tab w
  b0 : 0 < base
theorem LogR.turn {base d c : Nat} {s : DkS} {first : Int} {A : List WSeg} {w x : World} (h : LogR base d c s first A w) (hD : DObj base x d c s) (hb : ButD base w x) : LogR base d c s first A x :=
  ⟨hD, h.c6, h.log, h.fst, h.len, h.sz, h.txt, tab_butD h.tab hb h.b0, h.b0⟩
theorem LogR.below {base d c : Nat} {s : DkS} {first : Int} {A : List WSeg} {w x : World} (h : LogR base d c s first A w) (hb : Below w.heap.size w x) : LogR base d c s first A x := h.turn (h.obj.call hb) (But.of_below hb)
set_option maxRecDepth 100000 in
set_option maxHeartbeats 2000000 in
theorem here_any {base d c : Nat} {s : DkS} (first : Int) (A : List WSeg) (w : World) (hR : LogR base d c s first A w) :
    Calls Tryd.prog 33 #[pt d 0, .int .i64 first] w fun e w' => e = .returned (.int .i64 (hereA first A)) ∧ DObj base w' d c s ∧ ButD base w w' := by
  have hlen := hR.len
  have HRR := Lib.hid hR; clear hR
  go_enter Tryd.func33, Tryd.ntmps33
  simp only [pt]
  go_wp2_with fail
  refine (segments_any first A w HRR.out.obj HRR.out.c6 HRR.out.log HRR.out.fst HRR.out.len).mono ?_
  rintro e w1 ⟨u, rfl, hrow, hD1, hb1⟩
  obtain ⟨ao, cap, rfl, hm, hat⟩ := row_view hrow
  have HR1 := Lib.hid (HRR.out.turn hD1 hb1); have HB1 := Lib.hid hb1
  clear hrow hD1 hb1
  have hf := HRR.out.fst
  obtain ⟨fst1, fst2⟩ := hf
  by_cases h0 : A = []
  · subst h0
    have HAT := Lib.hid hat; clear hat
    go_wp2
    go_ret
    exact ⟨ret_int (by simp [hereA, atA]), HR1.out.obj, HB1.out⟩
  · have hpos : 0 < A.length := List.length_pos_iff.2 h0
    obtain ⟨y, hy⟩ : ∃ y, A[A.length - 1]? = some y := ⟨_, List.getElem?_eq_getElem (by omega)⟩
    obtain ⟨g, rfl, -, hg⟩ := hat (A.length - 1) (by omega)
    rw [flat_ints, List.getElem?_map, segN_get _ _ _ (by omega)] at hg
    replace hg : w1.cell? ⟨g, A.length - 1, none⟩ = some (.int .i64 (first + ((A.length - 1 : Nat) : Int))) := hg
    have hne : ((A.length : Int) == 0) = false := by simp; omega
    have e1 : (A.length : Int) - 1 = ((A.length - 1 : Nat) : Int) := by omega
    have hyb := HRR.out.sz y (List.mem_of_getElem? hy)
    obtain ⟨p, hp⟩ : ∃ p : Int, p = first + ((A.length - 1 : Nat) : Int) := ⟨_, rfl⟩
    rw [← hp] at hg
    have HY := Lib.hid hy; have HP := Lib.hid hp; have H0 := Lib.hid h0; have HAT := Lib.hid hat; have HA := Lib.hid hlen
    have hp1 : p ≤ 2000000000 := by omega
    have hp2 : 0 ≤ p := by omega
    clear hy hp h0 hat
    have hdat : datF s.fm p = y.b := by rw [HP.out]; exact dat_seg HRR.out.log HY.out
    have hhere := hereA_snoc (first := first) HY.out H0.out
    have HDT := Lib.hid hdat; have HH := Lib.hid hhere
    clear hdat hhere hyb hlen
    go_wp2_with fail
    clear e1 hne
    refine (tData w1 p HR1.out.obj).mono ?_
    rintro e w2 ⟨rfl, hD2, hb2⟩
    rw [HDT.out]
    have HR2 := Lib.hid (HR1.out.turn hD2 hb2); have HB2 := Lib.hid (butD_tr HB1.out hb2)
    have hyb := HRR.out.sz y (List.mem_of_getElem? HY.out)
    have hS := seg_all (HRR.out.log.1 y (List.mem_of_getElem? HY.out))
    obtain ⟨B, hB⟩ : ∃ B, B = y.b := ⟨_, rfl⟩
    obtain ⟨cQ, hcQ⟩ : ∃ cQ : Int, cQ = if y.q.size = 0 then 0 else 2 := ⟨_, rfl⟩
    rw [← hB] at hyb hS ⊢
    rw [← hcQ] at hS
    have hE : hereA first A = if 256 ≤ B.size ∨ cQ ≠ 0 then p + 1 else p := by
      rw [HH.out]
      have e2 : (fullS y = true) ↔ (256 ≤ B.size ∨ cQ ≠ 0) := by
        unfold fullS; rw [Bool.or_eq_true, decide_eq_true_iff, decide_eq_true_iff, hB, hcQ]
        by_cases hq : y.q.size = 0
        · rw [if_pos hq]; simp [hq]
        · rw [if_neg hq]; simp [hq]
      by_cases hf : fullS y = true
      · rw [if_pos hf, if_pos (e2.1 hf), HP.out]; omega
      · rw [if_neg hf, if_neg (fun h => hf (e2.2 h)), HP.out]
    have HE := Lib.hid hE; have HS := Lib.hid hS; have HSZ := Lib.hid hyb
    clear hD2 hb2 hB hcQ hyb hS hE
    by_cases hbig : (256 : Int) ≤ (B.size : Int)
    · have hb1 : decide ((256 : Int) ≤ (B.size : Int)) = true := decide_eq_true hbig
      go_wp2
      go_ret
      exact ⟨ret_int (by rw [HE.out, if_pos (.inl (by omega))]), HR2.out.obj, HB2.out⟩
    · have hb1 : decide ((256 : Int) ≤ (B.size : Int)) = false := decide_eq_false hbig
      go_wp2_with fail
      have hyb := HSZ.out
      refine (all_any B w2 HR2.out.tab (by omega)).mono ?_
      rintro e w3 ⟨v, l, b, c3, rfl, hAll, hrow3, hb3⟩
      obtain ⟨-, -, hc3⟩ := run_det hAll.1 hAll.2 HS.out.1 HS.out.2
      subst hc3
      have HR3 := Lib.hid (HR2.out.below hb3); have HB3 := Lib.hid (butD_tr HB2.out (But.of_below hb3)); have HBG := Lib.hid hbig
      clear hAll hrow3 hb3 hyb hb1 hbig
      by_cases hq : c3 = 0
      · subst hq
        go_wp2
        go_ret
        exact ⟨ret_int (by rw [HE.out, if_neg (by have := HBG.out; omega)]), HR3.out.obj, HB3.out⟩
      · have hne : (c3 != 0) = true := by simpa using hq
        have HQ := Lib.hid hq; clear hq
        go_wp2
        go_ret
        exact ⟨ret_int (by rw [HE.out, if_pos (.inr HQ.out)]), HR3.out.obj, HB3.out⟩
end Go.Proofs.YtfiplhnplmadmaaDoor

/- Package wal: Open. Conditions: as for here. -/
namespace Go.Proofs.YtfiplhnplmadmaaDoor
open Go.RowKit Go.PlainAid Go.Shelf
set_option linter.unusedVariables false
theorem strE_oneW (z : ByteArray) : ∀ u ∈ strE z, u.oneCell' = true := by intro u hu; simp [strE] at hu; subst hu; rfl
theorem txtA_take {A : List WSeg} {i : Nat} {y : WSeg} (h : A[i]? = some y) : txtA (A.take (i + 1)) = txtA (A.take i) ++ y.T := by
  unfold txtA; rw [List.take_add_one, h]; simp
theorem txtA_len {A : List WSeg} {i : Nat} : (txtA (A.take i)).length ≤ (txtA A).length := by
  conv => rhs; rw [← List.take_append_drop i A]
  unfold txtA; rw [List.flatMap_append, List.length_append]; omega
set_option maxRecDepth 100000 in
set_option maxHeartbeats 4000000 in
theorem wopen_any {base d c : Nat} {s : DkS} (first : Int) (A : List WSeg) (w : World) (hR : LogR base d c s first A w) :
    Calls Tryd.prog 11 #[pt d 0, .int .i64 first] w fun e w' => ∃ (N : Nat) (u : Value), e = .returned (.tuple #[pt N 0, u, .int .i64 0]) ∧ Blk w' N 41 #[.bool true, pt d 0, .int .i64 first] ∧ w'.ownsRow w.heap.size 9 1 u (txtA A).length ((txtA A).flatMap strE) ∧ DObj base w' d c s ∧ ButD base w w' := by
  have hlen := hR.len; have htx := hR.txt
  obtain ⟨fst1, fst2⟩ := hR.fst
  obtain ⟨i0, hinf, hz0, hz1, hz2⟩ := info_parts info_strI
  have HRR := Lib.hid hR; clear hR
  go_enter Tryd.func11, Tryd.ntmps11
  simp only [pt]
  go_wp2_with fail
  refine (segments_any first A w HRR.out.obj HRR.out.c6 HRR.out.log HRR.out.fst HRR.out.len).mono ?_
  rintro e w1 ⟨u, rfl, hrow, hD1, hb1⟩
  obtain ⟨ao, cap, rfl, hm, hat⟩ := row_view hrow
  have HR1 := Lib.hid (HRR.out.turn hD1 hb1); have HB1 := Lib.hid hb1; have HROW := Lib.hid hrow
  clear hrow hD1 hb1 hat
  go_wp2_with fail
  go_loopg [7, 27] (A.length + 1) (fun g s7 s27 wr => ∃ i : Nat, s27 = .int .i64 i ∧ i ≤ A.length ∧ A.length + 1 ≤ i + g ∧ Hid (wr.ownsRow w.heap.size 9 1 s7 (txtA (A.take i)).length ((txtA (A.take i)).flatMap strE)) ∧ Hid (wr.ownsRow w.heap.size 3 1 (.slice ao A.length cap) A.length ((segN first A.length).flatMap (intE .i64))) ∧ Hid (LogR base d c s first A wr) ∧ Hid (ButD base w wr))
  case atStart => exact ⟨0, rfl, by omega, by omega, Lib.hid (World.ownsRow_nil _ _ _ _), HROW, HR1, HB1⟩
  case round =>
    obtain ⟨i, rfl, hi, hg, HT, HN, HL, HB⟩ := hrel
    by_cases hlt : i < A.length
    · obtain ⟨y, hy⟩ : ∃ y, A[i]? = some y := ⟨_, List.getElem?_eq_getElem hlt⟩
      obtain ⟨ao', c', e, -, hat⟩ := row_view HN.out
      cases e
      obtain ⟨g2, rfl, -, hg2⟩ := hat i hlt
      rw [flat_ints, List.getElem?_map, segN_get _ _ _ hlt] at hg2
      replace hg2 : wr.cell? ⟨g2, i, none⟩ = some (.int .i64 (first + (i : Int))) := hg2
      obtain ⟨p, hp⟩ : ∃ p : Int, p = first + (i : Int) := ⟨_, rfl⟩
      rw [← hp] at hg2
      have hdat : datF s.fm p = y.b := by rw [hp]; exact dat_seg HRR.out.log hy
      have hyb := HRR.out.sz y (List.mem_of_getElem? hy)
      have HDT := Lib.hid hdat; have HY := Lib.hid hy; have HP := Lib.hid hp; have HAT := Lib.hid hat
      clear hdat hy hp hat
      go_wp2_with fail
      refine (tData wr p HL.out.obj).mono ?_
      rintro e w2 ⟨rfl, hD2, hb2⟩
      rw [HDT.out]
      have HL2 := Lib.hid (HL.out.turn hD2 hb2); have HB2 := Lib.hid (butD_tr HB.out hb2); have HT2 := Lib.hid (rowD HT.out (by decide) hb2); have HN2 := Lib.hid (rowD HN.out int_off hb2)
      clear hD2 hb2
      go_wp2_with fail
      refine (all_any y.b w2 HL2.out.tab (by omega)).mono ?_
      rintro e w3 ⟨v, l, b, c3, rfl, hAll, hrow3, hb3⟩
      have hS := seg_all (HRR.out.log.1 y (List.mem_of_getElem? HY.out))
      obtain ⟨hl3, -, -⟩ := run_det hAll.1 hAll.2 hS.1 hS.2
      subst hl3
      have HL3 := Lib.hid (HL2.out.below hb3); have HB3 := Lib.hid (butD_tr HB2.out (But.of_below hb3)); have HT3 := Lib.hid (row_below HT2.out hb3); have HN3 := Lib.hid (row_below HN2.out hb3)
      have htk := txtA_take HY.out
      have htl := txtA_len (A := A) (i := i + 1)
      have hsz3 := HB3.out.size
      have HTK := Lib.hid htk; have HROW3 := Lib.hid hrow3
      rw [htk, List.length_append] at htl
      clear hAll hS hb3 htk hrow3
      obtain ⟨a7, n7, c7, rfl⟩ := own_slice HT3.out
      obtain ⟨a8, n8, c8, rfl⟩ := own_slice HROW3.out
      go_wp2_with (at_builtin; go_loud (refine wpList_append_src rfl (.tmp 39) (.tmp 40) 28 rfl w.heap.size 9 i0 (.string ⟨#[]⟩) 1 16 Tryd.underlying28 hinf hz0 hz1 hz2 rfl (by decide) (.slice a7 n7 c7) (txtA (A.take i)).length ((txtA (A.take i)).flatMap strE) rfl HT3.out strE y.T (.slice a8 n8 c8) rfl (SliceOf.own HROW3.out (fun _ _ => rfl)) (fun z _ => ⟨rfl, strE_oneW z⟩) (by unfold maxLen; omega) (by omega) (by omega) ?_); intro v' w4 hown' hgrow)
      have hD4 := HL3.out.obj.row HT3.out (by decide) hgrow
      have hB4 : ButD base w w4 := HB3.out.grown hgrow (fun r e => own_blockI HT3.out _ e)
      have HB4 := Lib.hid hB4; have HL4 := Lib.hid (HRR.out.turn hD4 hB4); have HN4 := Lib.hid (row_kept_row HN3.out HT3.out hgrow (by decide))
      have HT4 : Hid (w4.ownsRow w.heap.size 9 1 v' (txtA (A.take (i + 1))).length ((txtA (A.take (i + 1))).flatMap strE)) := Lib.hid (by rw [HTK.out, List.length_append, List.flatMap_append]; exact hown')
      clear hD4 hB4 hgrow hown'
      go_roundg (gk - 1)
      case rel => exact ⟨i + 1, by go_num, by omega, by omega, HT4, HN4, HL4, HB4⟩
      case measure => omega
    · have hq : i = A.length := by omega
      subst hq
      rw [List.take_length] at HT
      have hb := HB.out
      obtain ⟨ao2, n2, cap2, rfl⟩ := own_slice HT.out
      go_wp2
      go_ret3
      have hg := World.grownBy_alloc wr (.cells #[.bool true, .pointer (some ⟨d, 0, none⟩), .int .i64 first] 41) none
      exact ⟨_, _, rfl, World.alloc_heap_new wr _, row_kept_new HT.out hg, HL.out.obj.new hg, HB.out.grown hg (fun r e => nomatch e)⟩
theorem Blk.grW {w x : World} {N : Nat} {T : TypeId} {cs : Array Value} (h : Blk w N T cs) (hT : offD T) {base : Nat} (hb : ButD base w x) : Blk x N T cs := blkD h hT hb
end Go.Proofs.YtfiplhnplmadmaaDoor

/- Package wal: a disk that bears a log, as one object; what calls make of it. Conditions: at most 900 calls. -/
namespace Go.Proofs.YtfiplhnplmadmaaDoor
open Go.RowKit Go.PlainAid Go.Shelf
set_option linter.unusedVariables false

theorem nodup_le : ∀ {l K : List Int}, l.Nodup → (∀ a ∈ l, a ∈ K) → l.length ≤ K.length
  | [], K, _, _ => Nat.zero_le _
  | a :: r, K, hn, hs => by
    obtain ⟨h1, h2⟩ := List.nodup_cons.1 hn
    have ha := hs a (List.mem_cons_self ..)
    have h3 := nodup_le (K := K.erase a) h2 (fun b hb => (List.mem_erase_of_ne (fun e => h1 (by rw [← e]; exact hb))).2 (hs b (List.mem_cons_of_mem _ hb)))
    have h4 := List.length_erase_of_mem ha
    have h5 : 0 < K.length := List.length_pos_iff.2 (List.ne_nil_of_mem ha)
    rw [List.length_cons]; omega
theorem DObj.tight {base d c : Nat} {s : DkS} {w : World} (h : DObj base w d c s) {K : List Int} (hK : ∀ k, (s.fm k).isSome = true → k ∈ K) : DObj base w d K.length s := by
  obtain ⟨M, pv, g, c', hc, hP⟩ := h
  refine ⟨M, pv, g, K.length, Nat.le_refl _, { hP with map := ?_ }⟩
  obtain ⟨l, h1, h2, h3⟩ := hP.map
  refine ⟨l, h1, h2, ?_⟩
  have hnd : (l.map (·.1)).Nodup := h1.keys
  have h4 := nodup_le (K := K) hnd (fun a ha => by
    obtain ⟨p, hp, rfl⟩ := List.mem_map.1 ha
    have h5 := (getK_mem l p.1 p.2 hnd).2 hp
    rw [h2] at h5
    refine hK _ ?_
    rw [← hP.rel p.1]
    cases hg : g p.1 with
    | none => rw [hg] at h5; cases h5
    | some f => rfl)
  rwa [List.length_map] at h4
theorem run_len (xs : List ByteArray) (A : List WSeg) : (xs.foldl appA A).length ≤ A.length + xs.length := by
  induction xs generalizing A with
  | nil => simp
  | cons x r ih =>
    rw [List.foldl_cons, List.length_cons]
    have h1 := ih (appA A x)
    have h2 : (appA A x).length ≤ A.length + 1 := by unfold appA; rw [putA_len]; split <;> omega
    omega
theorem OnD.keys {fm : Int → Option FileM} {first : Int} {A C : List WSeg} (h : OnD fm first A C) : ∀ k, (fm k).isSome = true → k ∈ segN first A.length := fun k hk => by
  rw [h k] at hk; unfold flW at hk
  rw [segN_mem]
  by_cases hl : first ≤ k
  · rw [if_pos hl] at hk
    by_cases hs : (A[(k - first).toNat]?).isSome = true
    · have := (List.getElem?_eq_some_iff.1 (Option.isSome_iff_exists.1 hs).choose_spec).1; omega
    · rw [if_neg hs] at hk; cases hk
  · rw [if_neg hl] at hk; cases hk
/-- A disk that bears just a log: A's segments are safe, xs came since; m calls at most. -/
def WlO (base : Nat) (w : World) (d m : Nat) (first : Int) (A : List WSeg) (xs : List ByteArray) : Prop :=
  ∃ s, DObj base w d (xs.foldl appA A).length s ∧ WSt s first A xs ∧ DkI s m ∧ 0 ≤ s.boots ∧ s.boots ≤ (m : Int) + 1 ∧ A.length + xs.length ≤ m ∧ (txtA A).length + xs.length ≤ m ∧ 1 ≤ first ∧ first ≤ 1000000000
section
variable {base d m N : Nat} {n0 : Int} {first : Int} {A : List WSeg} {xs : List ByteArray} {w x : World}
theorem WlO.new (h : WlO base w d m first A xs) (hg : w.grownBy x none) : WlO base x d m first A xs := by obtain ⟨s, h1, h2⟩ := h; exact ⟨s, h1.new hg, h2⟩
theorem WlO.call (h : WlO base w d m first A xs) (hb : Below w.heap.size w x) : WlO base x d m first A xs := by obtain ⟨s, h1, h2⟩ := h; exact ⟨s, h1.call hb, h2⟩
theorem WlO.at {T : TypeId} {cs : Array Value} (h : WlO base w d m first A xs) (hb : Blk w N T cs) (hT : offD T) (hg : w.grownBy x (some N)) : WlO base x d m first A xs := by obtain ⟨s, h1, h2⟩ := h; exact ⟨s, h1.at hb hT hg, h2⟩
theorem WlO.row {B sz k : Nat} {e : TypeId} {v : Value} {ys : List Value} (h : WlO base w d m first A xs) (hr : w.ownsRow B e sz v k ys) (hT : offD e) (hg : w.grownBy x v.ownBlock) : WlO base x d m first A xs := by obtain ⟨s, h1, h2⟩ := h; exact ⟨s, h1.row hr hT hg, h2⟩
theorem WlO.up {m' : Nat} (h : WlO base w d m first A xs) (hm : m ≤ m') : WlO base w d m' first A xs := by
  obtain ⟨s, h1, h2, h3, h4, h5, h6, h7, h8⟩ := h; exact ⟨s, h1, h2, h3.up hm, h4, by omega, by omega, by omega, h8⟩
theorem WlO.eq {A' : List WSeg} {xs' : List ByteArray} (h : WlO base w d m first A xs) (e1 : A = A') (e2 : xs = xs') : WlO base w d m first A' xs' := by subst e1 e2; exact h
theorem WlO.len (h : WlO base w d m first A xs) : A.length + xs.length ≤ m ∧ (txtA A).length + xs.length ≤ m := by obtain ⟨s, h1, h2, h3, h4, h5, h6, h7, h8⟩ := h; exact ⟨h6, h7⟩
def WlX (base : Nat) (w : World) (d m : Nat) (first : Int) (A : List WSeg) (xs : List ByteArray) (s : DkS) : Prop :=
  DObj base w d (xs.foldl appA A).length s ∧ WSt s first A xs ∧ DkI s m ∧ 0 ≤ s.boots ∧ s.boots ≤ (m : Int) + 1 ∧ A.length + xs.length ≤ m ∧ (txtA A).length + xs.length ≤ m ∧ 1 ≤ first ∧ first ≤ 1000000000
theorem WlX.logR {s : DkS} (h : WlX base w d m first A xs s) (hm : m ≤ 900) (ht : Tab w) (hb : 0 < base) : LogR base d (xs.foldl appA A).length s first (xs.foldl appA A) w ∧ hereA first (xs.foldl appA A) ≤ first + (m : Int) := by
  obtain ⟨h1, h2, h3, h4, h5, h6, h7, h8, h9⟩ := h
  have hl := run_len xs A
  refine ⟨⟨h1, by omega, h2.logs, ⟨h8, by omega⟩, by omega, fun y hy => ?_, ?_, ht, hb⟩, ?_⟩
  · obtain ⟨i, hi⟩ := List.getElem?_of_mem hy
    have h10 := h3.len (first + (i : Int))
    rw [((h2.logs).2 i).2] at h10
    unfold bytA at h10
    rw [hi] at h10
    have h11 : ((y.b.data.toList.length : Nat) : Int) ≤ m * 1048576 := h10
    rw [list_len] at h11
    omega
  · rw [txt_run, List.length_append]; omega
  · have := at_le (xs.foldl appA A); unfold hereA; omega
theorem here_ok (h1 : 1 ≤ first) (h : hereA first A ≤ 1073741824) : wrE (hereA first A) = 0 := by
  unfold wrE; rw [if_neg]; unfold hereA at h ⊢; omega
theorem wlNew (base : Nat) (first : Int) (w : World) (hb : base ≤ w.heap.size) (hf : 1 ≤ first ∧ first ≤ 1000000000) : Calls Tryd.prog 10 #[] w fun e w' => ∃ N, e = .returned (pt N 0) ∧ WlO base w' N 0 first [] [] ∧ Below w.heap.size w w' :=
  (tNew base w hb).mono fun e x ⟨N, h1, h2, h3⟩ => ⟨N, h1, ⟨s0D, h2, ⟨fun k => by unfold flW; simp [s0D], rfl, (fun y hy => by cases hy), (fun y hy => by cases hy)⟩, s0_I, by decide, by decide, Nat.le_refl _, Nat.le_refl _, hf⟩, h3⟩
theorem wlOpen (w : World) (h : WlO base w d m first A xs) (hm : m ≤ 900) (ht : Tab w) (hb : 0 < base) : Calls Tryd.prog 11 #[pt d 0, .int .i64 first] w fun e w' => ∃ (N : Nat) (u : Value), e = .returned (.tuple #[pt N 0, u, .int .i64 0]) ∧ Blk w' N 41 #[.bool true, pt d 0, .int .i64 first] ∧ w'.ownsRow w.heap.size 9 1 u (txtA A ++ xs).length ((txtA A ++ xs).flatMap strE) ∧ WlO base w' d m first A xs ∧ ButD base w w' := by
  obtain ⟨s, hX⟩ := h
  have hX : WlX base w d m first A xs s := hX
  obtain ⟨hR, -⟩ := hX.logR hm ht hb
  refine (wopen_any first _ w hR).mono ?_
  rintro e x ⟨N, u, k1, k2, k3, k4, k5⟩
  rw [txt_run] at k3
  exact ⟨N, u, k1, k2, k3, ⟨s, k4, hX.2⟩, k5⟩
theorem wlHere (w : World) (h : WlO base w d m first A xs) (hm : m ≤ 900) (ht : Tab w) (hb : 0 < base) : Calls Tryd.prog 33 #[pt d 0, .int .i64 first] w fun e w' => e = .returned (.int .i64 (hereA first (xs.foldl appA A))) ∧ WlO base w' d m first A xs ∧ ButD base w w' := by
  obtain ⟨s, hX⟩ := h
  have hX : WlX base w d m first A xs s := hX
  obtain ⟨hR, -⟩ := hX.logR hm ht hb
  exact (here_any first _ w hR).mono fun e x ⟨k1, k2, k3⟩ => ⟨k1, ⟨s, k2, hX.2⟩, k3⟩
theorem frameB_le {t : ByteArray} (ht : t.size ≤ 65536) : (frameB t).size ≤ 65600 := by
  have h1 := numB_size t
  have h2 : (frameB t).size = (numB t).size + 4 + t.size := by
    unfold frameB; rw [bsz_app, bsz_app]; rfl
  omega
theorem wlWrite (w : World) (t : ByteArray) (h : WlO base w d m first A xs) (hm : m ≤ 800) (ht : t.size ≤ 65536) : Calls Tryd.prog 28 #[pt d 0, .int .i64 (hereA first (xs.foldl appA A)), .string (frameB t)] w fun e w' => e = .returned (.int .i64 0) ∧ WlO base w' d (m + 1) first A (xs ++ [t]) ∧ ButD base w w' := by
  obtain ⟨s, h1, h2, h3, h4, h5, h6, h7, h8, h9⟩ := h
  have hfr := frameB_le ht
  have hh : hereA first (xs.foldl appA A) ≤ first + (m : Int) := by have := at_le (xs.foldl appA A); have := run_len xs A; unfold hereA; omega
  have hw := here_ok h8 (A := xs.foldl appA A) (by omega)
  refine (tWrite w (hereA first (xs.foldl appA A)) (frameB t) h1 (h3.hsz (by omega) _ (by omega)) (h3.hpl (by omega))).mono ?_
  rintro e x ⟨k1, k2, k3⟩
  rw [hw] at k1
  have h2' := h2.write ht hw
  have hk := k2.tight (h2'.on.keys)
  rw [segN_len] at hk
  refine ⟨k1, ⟨_, hk, h2', h3.write _ _ (by omega), ?_, ?_, by simp; omega, by simp; omega, h8, h9⟩, k3⟩
  · unfold wrS; split <;> exact h4
  · have : (wrS s (hereA first (xs.foldl appA A)) (frameB t)).boots = s.boots := by unfold wrS; split <;> rfl
    rw [this]; omega
theorem wlSync (w : World) (h : WlO base w d m first A xs) (hm : m ≤ 900) : Calls Tryd.prog 13 #[pt d 0] w fun e w' => ∃ k : Int, e = .returned (.int .i64 k) ∧ WlO base w' d (m + 1) first (xs.foldl appA A) [] ∧ ButD base w w' := by
  obtain ⟨s, h1, h2, h3, h4, h5, h6, h7, h8, h9⟩ := h
  refine (tSync w h1 (h3.hsb hm)).mono ?_
  rintro e x ⟨k1, k2, k3⟩
  have h2' := h2.sync
  have hk := k2.tight (h2'.on.keys)
  rw [segN_len] at hk
  have hl := run_len xs A
  refine ⟨_, k1, ⟨_, hk, h2', h3.sync.1.up (Nat.le_succ m), h4, by show s.boots ≤ ((m + 1 : Nat) : Int) + 1; omega, by simp; omega, by rw [txt_run]; simp; omega, h8, h9⟩, k3⟩
theorem getF_tr (fm : Int → Option FileM) (k : Int) : (getF (trF fm) k).1.length ≤ (getF fm k).1.length := by
  unfold getF trF
  cases h : fm k with
  | none => exact Nat.le_refl _
  | some f =>
    show ((trM f).getD mz).1.length ≤ f.1.length
    unfold trM
    split
    · show (f.1.take _).length ≤ _; rw [List.length_take]; omega
    · exact Nat.zero_le _
theorem DkI.crashW {s : DkS} {E : List WSeg} (h : DkI s m) (hE : WSt (crS s n0) first E []) : DkI (crS s n0) m := by
  have hk : ∀ k, ((getF (crS s n0).fm k).1.length : Int) ≤ m * 1048576 := fun k => by
    have h1 := getF_tr (crRun n0 s.fm s.ps).2.2 k
    obtain ⟨-, h2⟩ := crRun_all (n := n0) (fm := s.fm) h.pos
    rw [(h2 k).1] at h1
    have h3 := h.len k
    have h4 : (getF (crS s n0).fm k).1.length ≤ (getF s.fm k).1.length := h1
    omega
  have hf : ∀ k, (getF (crS s n0).fm k).2.1 = ((getF (crS s n0).fm k).1.length : Int) ∧ (((crS s n0).fm k).isSome = true → (getF (crS s n0).fm k).2.2 = true) := fun k => by
    have h1 := hE.on k
    unfold getF; rw [h1]; unfold flW
    by_cases hl : first ≤ k
    · rw [if_pos hl]
      by_cases hs : ((([] : List ByteArray).foldl appA E)[(k - first).toNat]?).isSome = true
      · rw [if_pos hs]; exact ⟨rfl, fun _ => hs⟩
      · rw [if_neg hs]; exact ⟨rfl, fun h => by cases h⟩
    · rw [if_neg hl]; exact ⟨rfl, fun h => by cases h⟩
  refine ⟨hk, fun p hp => (by cases hp), fun k => ?_, fun k => ?_, ?_, Nat.zero_le _, fun k hk2 => .inl ((hf k).2 hk2)⟩
  · show _ + sumK [] k = _
    rw [(hf k).1]; simp [sumK]
  · rw [(hf k).1]; omega
  · show sumP [] ≤ _
    simp [sumP]; omega
end
end Go.Proofs.YtfiplhnplmadmaaDoor

/- Package disk: Drop where nothing is pending. Conditions: nothing is pending. -/
namespace Go.Proofs.YtfiplhnplmadmaaDoor
open Go.RowKit Go.PlainAid
set_option linter.unusedVariables false
set_option linter.unusedSimpArgs false


set_option maxRecDepth 100000 in
theorem pidx0 (v F : Value) (w : World) (l : List PcT) (h : SliceOf pieceE 2 w v l) (hl : l.length = 0) : Calls Tryd.prog 82 #[v, F] w fun e w' => e = .returned (.int .i64 (-1)) ∧ w = w' := by
  obtain ⟨ao, cap, rfl, _⟩ := h
  rw [hl]
  go_enter Tryd.func82, Tryd.ntmps82
  go_wp2
  go_loopg [8] 1 (fun g s8 wr => s8 = .int .i64 0 ∧ w = wr)
  case atStart => exact ⟨rfl, rfl⟩
  case round =>
    obtain ⟨rfl, rfl⟩ := hrel
    go_wp2
    go_ret
    exact ⟨rfl, rfl⟩
set_option maxRecDepth 100000 in
theorem pdel0 (v F : Value) (w : World) (l : List PcT) (h : SliceOf pieceE 2 w v l) (hl : l.length = 0) : Calls Tryd.prog 68 #[v, F] w fun e w' => e = .returned v ∧ w = w' := by
  have H := Lib.hid h; have HL := Lib.hid hl
  obtain ⟨ao, cap, rfl, _⟩ := h
  clear hl
  obtain ⟨n, hn⟩ : ∃ n, n = l.length := ⟨_, rfl⟩
  rw [← hn] at H ⊢
  have HN := Lib.hid hn; clear hn
  go_enter Tryd.func68, Tryd.ntmps68
  go_wp2_with fail
  refine (pidx0 _ F w l H.out HL.out).mono ?_
  rintro e w1 ⟨rfl, rfl⟩
  go_wp2
  go_ret
  exact ⟨rfl, rfl⟩
def dpE (s : DkS) (n : Int) : Int := if (s.fm n).isSome = true then 0 else 7
def dpS (s : DkS) (n : Int) : DkS := ⟨fun b => if b = n then none else s.fm b, s.ps, s.ser, s.boots⟩
theorem dp_no {s : DkS} {n : Int} (h : (s.fm n).isSome = false) : dpE s n = 7 ∧ dpS s n = s := by
  refine ⟨by unfold dpE; rw [h]; rfl, ?_⟩
  obtain ⟨fm, ps, a, b⟩ := s
  unfold dpS
  congr 1
  funext b
  by_cases e : b = n
  · rw [if_pos e, e]; exact (by simpa using h : fm n = none).symm
  · rw [if_neg e]
theorem dp_ok {s : DkS} {n : Int} (h : (s.fm n).isSome = true) : dpE s n = 0 := by unfold dpE; rw [if_pos h]
theorem dp_rel {g : Int → Option FileG} {s : DkS} {n : Int} (h : ∀ k, (g k).map (·.2) = s.fm k) : ∀ k, ((fun b => if b = n then none else g b) k).map (·.2) = (dpS s n).fm k := fun k => by
  show Option.map _ (if k = n then none else g k) = if k = n then none else s.fm k
  by_cases e : k = n
  · rw [if_pos e, if_pos e]; rfl
  · rw [if_neg e, if_neg e]; exact h k
theorem sm_of {g : Int → Option FileG} {fm : Int → Option FileM} (h : ∀ k, (g k).map (·.2) = fm k) {a : Int} {b : Bool} (hb : (g a).isSome = b) : (fm a).isSome = b := by rw [← h a, Option.isSome_map]; exact hb

set_option maxRecDepth 100000 in
set_option maxHeartbeats 1600000 in
theorem dDrop_any (w0 : World) (S : Nat → Prop) (d : Nat) (M : Nat) (pv : Value) (g : Int → Option FileG) (c : Nat) (s : DkS) (number : Int) (w : World) (hbw : But S w0 w) (hO : DkP S w0.heap.size w d M pv g c s) (hps : s.ps.length = 0) :
    Calls Tryd.prog 58 #[pt d 0, .int .i64 number] w fun e w' => ∃ (pv' : Value) (g' : Int → Option FileG) (c' : Nat), e = .returned (.int .i64 (dpE s number)) ∧ DkP S w0.heap.size w' d M pv' g' c' (dpS s number) ∧ c' ≤ c ∧ But (S) w0 w' := by
 have hB0 := hbw
 have hz0 := hbw.size
 have hz0 := hbw.size
 have hl1 := hO.blk.lt
 have hl2 := hO.map.lt
 have hne3 := blk_ne_map hO.blk hO.map
 have hl4 := sl_len (row_sl hO.row pieceE_len)
 refine co_enter (n := 34) Tryd.func58 rfl rfl rfl [(0, pt d 0), (1, .int .i64 number)] rfl (fun a h0 => ?_)
 refine co_seq ?_
 refine co_reg ?_
 refine pw h0 rfl (op_new (v := fun N => pt N 0) (T := 3) (cs := #[.int .i64 number]) (by kernel_rfl) (by kernel_rfl) (by kernel_rfl)) ?_; clear h0
 rintro _ w6 a5 ⟨N7, rfl, hN10, hz11, hk9, hg8⟩ h5
 have ha12 := row_fresh hO.row hN10
 have hu13 := row_under hO.row hN10
 have hz14 := hg8.size
 try dsimp only at h5
 refine pk0 (v := .int .i64 0) h5 rfl fun a15 h15 => ?_; clear h5
 refine pl_nil ?_
 refine co_then ?_
 refine co_seq ?_
 refine co_seq ?_
 refine co_reg ?_
 refine pk0 (v := pt d 0) h15 rfl fun a16 h16 => ?_; clear h15
 have hk19 := hO.blk.kept hg8 (by simp)
 refine pw h16 rfl (op_call (args := #[pt d 0]) (R := fun res xw => res = .bool false ∧ w6 = xw) rfl rfl rfl (by kernel_rfl) (by kernel_rfl) (Tryd.call34 _ _) (dzero_any d M pv s.ser s.boots w6 hk19) (by rintro e x ⟨rfl, rfl⟩; exact ⟨_, rfl, ⟨rfl, rfl⟩⟩)) ?_; clear h16
 rintro _ _ a17 ⟨rfl, rfl⟩ h17
 refine pl_nil ?_
 refine co_then ?_
 refine co_false h17 rfl ?_
 refine wp_skip ?_
 refine co_then ?_
 refine co_seq ?_
 refine co_seq ?_
 refine dr_gen (fun x => But (S) w0 x ∧ Blk x d 66 #[.bool true, .map (some M), pv, .int .i64 s.ser, .int .i64 s.boots] ∧ Blk x N7 3 #[.int .i64 number]) (by kernel_rfl) (fun w21 hg22 => ?_) (fun w21 hg22 => ?_)
 ·
  have hz23 := hg22.size
  have hB24 := fbU_new hB0 hg8
  have hB25 := fbU_new hB24 hg22
  have hk26 := hk19.kept hg22 (by simp)
  have hk27 := hk9.kept hg22 (by simp)
  exact ⟨hB25, hk26, hk27⟩
 have hz28 := hg22.size
 have hB29 := fbU_new hB0 hg8
 have hB30 := fbU_new hB29 hg22
 have hk31 := hk19.kept hg22 (by simp)
 have hk32 := hk9.kept hg22 (by simp)
 refine dk0 0 (v := pt d 0) h17 rfl rfl ⟨hB30, hk31, hk32⟩ fun a33 h33 => ?_; clear h17
 refine dk0 1 (v := pt d 0) h33 rfl rfl ⟨hB30, hk31, hk32⟩ fun a34 h34 => ?_; clear h33
 refine dk0 2 (v := pt d 1) h34 rfl rfl ⟨hB30, hk31, hk32⟩ fun a35 h35 => ?_; clear h34
 refine dk 3 (v := .map (some M)) h35 rfl rfl ⟨hB30, hk31, hk32⟩ (fun x hx => (rn_load1 rfl rfl Tryd.isAgg63 (hx.2.1.cell rfl))) fun a36 h36 => ?_; clear h35
 refine dk 4 (v := .int .i64 number) h36 rfl rfl ⟨hB30, hk31, hk32⟩ (fun x hx => (rn_load1 rfl rfl Tryd.isAgg3 (hx.2.2.cell rfl))) fun a37 h37 => ?_; clear h36
 refine dr_many [5, 9] (by kernel_rfl) (by simp) ⟨?_, ?_, trivial⟩
 ·
  have hF41 := hO.fam.new hg8
  have hF42 := hF41.new hg22
  have hM49 := hO.map.kept hg8 (by simp)
  have hM50 := hM49.kept hg22 (by simp)
  obtain ⟨f38, hf39⟩ : ∃ z, (g number).getD fz = z := ⟨_, rfl⟩
  have hA40 := hF42.at hf39
  have hl43 := sl_len (row_sl hA40.1 u8E_len)
  have hgf44 := getF_eq hO.rel hf39
  have hgl45 : f38.2.1.length = (getF s.fm number).1.length := by rw [hgf44]
  have hgs46 : f38.2.2.1 = (getF s.fm number).2.1 := by rw [hgf44]
  obtain ⟨b47, hb48⟩ : ∃ z, (g number).isSome = z := ⟨_, rfl⟩
  refine dr_opVal (i := 5) (v := .tuple #[.agg #[f38.1, .int .i64 f38.2.2.1, .bool f38.2.2.2], .bool b47]) h37 rfl rfl rfl rfl (by kernel_rfl) rfl (rn_lookOT (a := number) (f := f38) (b := b47) (intKL Tryd.underlying3) rfl rfl rfl Tryd.underlying63 filez hM50 hf39 hb48) ⟨hB30, hk31, hk32⟩ (fun a51 h51 => ?_); clear h37
  refine dk0 6 (v := .tuple #[.agg #[f38.1, .int .i64 f38.2.2.1, .bool f38.2.2.2], .bool b47]) h51 rfl rfl ⟨hB30, hk31, hk32⟩ fun a52 h52 => ?_; clear h51
  refine dk0 7 (v := .agg #[f38.1, .int .i64 f38.2.2.1, .bool f38.2.2.2]) h52 rfl rfl ⟨hB30, hk31, hk32⟩ fun a53 h53 => ?_; clear h52
  refine dk0 8 (v := .bool b47) h53 rfl rfl ⟨hB30, hk31, hk32⟩ fun a54 h54 => ?_; clear h53
  refine d1 9 h54 rfl rfl (op_new (v := fun N => pt N 0) (T := 77) (cs := #[.slice none 0 0, .int .i64 0, .bool false]) (by kernel_rfl) (by kernel_rfl) (by kernel_rfl)) ?_ ?_; clear h54
  ·
   rintro _ w56 ⟨N57, rfl, hN60, hz61, hk59, hg58⟩
   have hr63 := row_kept_new hO.row hg8
   have hr64 := row_kept_new hr63 hg22
   have ha62 := row_fresh hr64 hN60
   have hu65 := row_under hr64 hN60
   have ha66 := row_fresh hA40.1 hN60
   have hu67 := row_under hA40.1 hN60
   have hz68 := hg58.size
   have hB69 := fbU_new hB30 hg58
   have hk70 := hk31.kept hg58 (by simp)
   have hk71 := hk32.kept hg58 (by simp)
   exact ⟨hB69, hk70, hk71⟩
  rintro _ w56 a55 ⟨N57, rfl, hN60, hz61, hk59, hg58⟩ h55
  have hr63 := row_kept_new hO.row hg8
  have hr64 := row_kept_new hr63 hg22
  have ha62 := row_fresh hr64 hN60
  have hu65 := row_under hr64 hN60
  have ha66 := row_fresh hA40.1 hN60
  have hu67 := row_under hA40.1 hN60
  have hz68 := hg58.size
  try dsimp only at h55
  have hB69 := fbU_new hB30 hg58
  have hk70 := hk31.kept hg58 (by simp)
  have hk71 := hk32.kept hg58 (by simp)
  have hr77 := row_kept_new hA40.1 hg58
  refine d1D 10 h55 rfl rfl (op_storeN rfl rfl rfl (all_cons (row_one hr77) (all_cons rfl (all_cons rfl all_nil))) (by kernel_rfl) hk59 rfl) ?_ ?_; clear h55
  ·
   rintro _ w73 ⟨hk74, hz75, hg76⟩
   have hk74' : Blk w73 N57 77 #[f38.1, .int .i64 f38.2.2.1, .bool f38.2.2.2] := hk74; clear hk74
   have hz78 := hg76.size
   have hB79 := fbU_at hB69 hg76 (fun hlt => absurd hlt (by omega))
   have hk80 := hk70.kept hg76 (by simp; omega)
   have hk81 := hk71.kept hg76 (by simp; omega)
   exact ⟨hB79, hk80, hk81⟩
  rintro _ w73 a72 ⟨hk74, hz75, hg76⟩ h72
  have hk74' : Blk w73 N57 77 #[f38.1, .int .i64 f38.2.2.1, .bool f38.2.2.2] := hk74; clear hk74
  have hz78 := hg76.size
  have hB79 := fbU_at hB69 hg76 (fun hlt => absurd hlt (by omega))
  have hk80 := hk70.kept hg76 (by simp; omega)
  have hk81 := hk71.kept hg76 (by simp; omega)
  refine dk0 11 (v := .bool b47) h72 rfl rfl ⟨hB79, hk80, hk81⟩ fun a82 h82 => ?_; clear h72
  refine dr_done (by kernel_rfl) ?_
  refine co_then ?_
  refine co_seq ?_
  refine co_reg ?_
  refine pk0 (v := .bool b47) h82 rfl fun a83 h83 => ?_; clear h82
  have hM85 := hM50.kept hg58 (by simp)
  have hM86 := hM85.kept hg76 (by simp; omega)
  have hr87 := row_kept_new hr64 hg58
  have hr88 := row_kept_at hr87 hg76 (ha62)
  have hF89 := hF42.new hg58
  have hF90 := hF89.blk hk59 (by decide) hg76
  cases hc84 : (b47)
  ·
   rw [hc84] at h83
   refine pk0 (v := .bool true) h83 rfl fun a91 h91 => ?_; clear h83
   refine pl_nil ?_
   refine co_then ?_
   refine co_true h91 rfl ?_
   refine co_seq ?_
   refine co_reg ?_
   refine pk0 (v := .int .i64 7) h91 rfl fun a92 h92 => ?_; clear h91
   refine pl_nil ?_
   refine co_then ?_
   refine wp_ret ?_
   refine co_thenR ?_
   refine co_ret1 h92 rfl rfl ?_
   have hb9 := sm_of hO.rel hb48
   have hW := dp_no (s := s) (n := number) (by rw [hb9]; assumption)
   exact ⟨pv, g, c, by rw [hW.1], by rw [hW.2]; exact ⟨hk80, hM86, hr88, hF90, hO.sd, hO.sM, hO.sp, hO.rel⟩, by omega, hB79⟩
  ·
   rw [hc84] at h83
   refine pk0 (v := .bool false) h83 rfl fun a93 h93 => ?_; clear h83
   refine pl_nil ?_
   refine co_then ?_
   refine co_false h93 rfl ?_
   refine wp_skip ?_
   refine co_then ?_
   refine co_seq ?_
   refine dr_gen (fun x => But (S) w0 x ∧ Blk x d 66 #[.bool true, .map (some M), pv, .int .i64 s.ser, .int .i64 s.boots] ∧ Blk x N7 3 #[.int .i64 number]) (by kernel_rfl) (fun w94 hg95 => ?_) (fun w94 hg95 => ?_)
   ·
    have hz96 := hg95.size
    have hB97 := fbU_new hB79 hg95
    have hk98 := hk80.kept hg95 (by simp)
    have hk99 := hk81.kept hg95 (by simp)
    exact ⟨hB97, hk98, hk99⟩
   have hz100 := hg95.size
   have hB101 := fbU_new hB79 hg95
   have hk102 := hk80.kept hg95 (by simp)
   have hk103 := hk81.kept hg95 (by simp)
   refine dk0 0 (v := pt d 0) h93 rfl rfl ⟨hB101, hk102, hk103⟩ fun a104 h104 => ?_; clear h93
   refine dk0 1 (v := pt d 0) h104 rfl rfl ⟨hB101, hk102, hk103⟩ fun a105 h105 => ?_; clear h104
   refine dk0 2 (v := pt d 1) h105 rfl rfl ⟨hB101, hk102, hk103⟩ fun a106 h106 => ?_; clear h105
   refine dk 3 (v := .map (some M)) h106 rfl rfl ⟨hB101, hk102, hk103⟩ (fun x hx => (rn_load1 rfl rfl Tryd.isAgg63 (hx.2.1.cell rfl))) fun a107 h107 => ?_; clear h106
   refine dk 4 (v := .int .i64 number) h107 rfl rfl ⟨hB101, hk102, hk103⟩ (fun x hx => (rn_load1 rfl rfl Tryd.isAgg3 (hx.2.2.cell rfl))) fun a108 h108 => ?_; clear h107
   have hM114 := hM86.kept hg95 (by simp)
   refine d1D 5 h108 rfl rfl (op_deleteO (a := number) (intKL Tryd.underlying3) rfl rfl rfl Tryd.underlying63 hM114) ?_ ?_; clear h108
   ·
    rintro _ w110 ⟨hm111, hz112, hg113⟩
    have hF116 := hF90.new hg95
    have hF115 := hF116.del number
    have hz117 := hg113.size
    have hl118 := hm111.lt
    have hB119 := fbU_at hB101 hg113 (fun hlt => by rcases hO.sM with hq | hq; exact hq; omega)
    have hk120 := hk102.kept hg113 (by simp; omega)
    have hk121 := hk103.kept hg113 (by simp; omega)
    exact ⟨hB119, hk120, hk121⟩
   rintro _ w110 a109 ⟨hm111, hz112, hg113⟩ h109
   have hF116 := hF90.new hg95
   have hF115 := hF116.del number
   have hz117 := hg113.size
   have hl118 := hm111.lt
   refine dr_done (by kernel_rfl) ?_
   refine co_then ?_
   refine co_seq ?_
   refine co_reg ?_
   refine pk0 (v := pt d 0) h109 rfl fun a119 h119 => ?_; clear h109
   refine pk0 (v := pt d 0) h119 rfl fun a120 h120 => ?_; clear h119
   refine pk0 (v := pt d 0) h120 rfl fun a121 h121 => ?_; clear h120
   refine pk0 (v := pt d 2) h121 rfl fun a122 h122 => ?_; clear h121
   have hk123 := hk102.kept hg113 (by simp; omega)
   refine pk (v := pv) h122 rfl (rn_load1 rfl rfl Tryd.isAgg64 (hk123.cell rfl)) fun a124 h124 => ?_; clear h122
   refine pk0 (v := .func (.func 69) #[] #[pt N7 0]) h124 rfl fun a125 h125 => ?_; clear h124
   have hB128 := fbU_at hB101 hg113 (fun hlt => by rcases hO.sM with hq | hq; exact hq; omega)
   have hr129 := row_kept_new hr88 hg95
   have hr130 := row_kept_at hr129 hg113 (hM114.row hr129)
   have hr131 := row_kept_at hr77 hg76 (ha66)
   have hr132 := row_kept_new hr131 hg95
   have hr133 := row_kept_at hr132 hg113 (hM114.row hr132)
   have hk134 := hk74'.kept hg95 (by simp)
   have hk135 := hk134.kept hg113 (by simp; omega)
   refine pw h125 rfl (op_call (args := #[pv, .func (.func 69) #[] #[pt N7 0]]) (R := fun res xw => pv = res ∧ w110 = xw) rfl rfl rfl (by kernel_rfl) (by kernel_rfl) (Tryd.call68 _ _) (pdel0 pv (.func (.func 69) #[] #[pt N7 0]) w110 s.ps (row_sl hr130 pieceE_len) hps) (by rintro e x ⟨rfl, h⟩; exact ⟨_, rfl, rfl, h⟩)) ?_; clear h125
   rintro _ _ a126 ⟨rfl, rfl⟩ h126
   refine pk0 (v := pt d 0) h126 rfl fun a136 h136 => ?_; clear h126
   refine pk0 (v := pt d 2) h136 rfl fun a137 h137 => ?_; clear h136
   refine pwD h137 rfl (op_store1 rfl rfl rfl (row_one hr130) Tryd.sizeOf64 hk123 rfl) ?_; clear h137
   rintro _ w139 a138 ⟨hk140, hz141, hg142⟩ h138
   have hk140' : Blk w139 d 66 #[.bool true, .map (some M), pv, .int .i64 s.ser, .int .i64 s.boots] := hk140; clear hk140
   have hz143 := hg142.size
   refine pl_nil ?_
   refine co_then ?_
   refine co_seq ?_
   refine co_reg ?_
   refine pk0 (v := .int .i64 0) h138 rfl fun a144 h144 => ?_; clear h138
   refine pl_nil ?_
   refine co_then ?_
   refine wp_ret ?_
   refine co_ret1 h144 rfl rfl ?_
   have hM145 := hm111.kept hg142 (by simp; omega)
   have hr146 := row_kept_at hr130 hg142 (own_neT hr130 hk123 (by decide))
   have hF147 := hF115.map hM114 hg113
   have hF148 := hF147.blk hk123 (by decide) hg142
   have hB149 := fbU_at hB128 hg142 (fun hlt => by rcases hO.sd with hq | hq; exact hq; omega)
   have hb9 := sm_of hO.rel hb48
   have hW := dp_ok (s := s) (n := number) (by rw [hb9]; assumption)
   exact ⟨_, _, _, by rw [hW], ⟨hk140', hM145, hr146, hF148, hO.sd, hO.sM, hO.sp, dp_rel hO.rel⟩, by omega, hB149⟩
 ·
  refine dr_op (i := 9) h37 rfl rfl rfl rfl (op_new (v := fun N => pt N 0) (T := 77) (cs := #[.slice none 0 0, .int .i64 0, .bool false]) (by kernel_rfl) (by kernel_rfl) (by kernel_rfl)) ?_ ?_; clear h37
  ·
   rintro _ w151 ⟨N152, rfl, hN155, hz156, hk154, hg153⟩
   have hr158 := row_kept_new hO.row hg8
   have hr159 := row_kept_new hr158 hg22
   have ha157 := row_fresh hr159 hN155
   have hu160 := row_under hr159 hN155
   have hz161 := hg153.size
   have hB162 := fbU_new hB30 hg153
   have hk163 := hk31.kept hg153 (by simp)
   have hk164 := hk32.kept hg153 (by simp)
   exact ⟨hB162, hk163, hk164⟩
  rintro _ w151 a150 ⟨N152, rfl, hN155, hz156, hk154, hg153⟩ h150
  have hr158 := row_kept_new hO.row hg8
  have hr159 := row_kept_new hr158 hg22
  have ha157 := row_fresh hr159 hN155
  have hu160 := row_under hr159 hN155
  have hz161 := hg153.size
  try dsimp only at h150
  have hB162 := fbU_new hB30 hg153
  have hk163 := hk31.kept hg153 (by simp)
  have hk164 := hk32.kept hg153 (by simp)
  refine dr_many [5] (by kernel_rfl) (by simp) ⟨?_, trivial⟩
  ·
   have hF168 := hO.fam.new hg8
   have hF169 := hF168.new hg22
   have hF170 := hF169.new hg153
   have hM177 := hO.map.kept hg8 (by simp)
   have hM178 := hM177.kept hg22 (by simp)
   have hM179 := hM178.kept hg153 (by simp)
   obtain ⟨f165, hf166⟩ : ∃ z, (g number).getD fz = z := ⟨_, rfl⟩
   have hA167 := hF170.at hf166
   have hl171 := sl_len (row_sl hA167.1 u8E_len)
   have hgf172 := getF_eq hO.rel hf166
   have hgl173 : f165.2.1.length = (getF s.fm number).1.length := by rw [hgf172]
   have hgs174 : f165.2.2.1 = (getF s.fm number).2.1 := by rw [hgf172]
   obtain ⟨b175, hb176⟩ : ∃ z, (g number).isSome = z := ⟨_, rfl⟩
   refine dr_opVal (i := 5) (v := .tuple #[.agg #[f165.1, .int .i64 f165.2.2.1, .bool f165.2.2.2], .bool b175]) h150 rfl rfl rfl rfl (by kernel_rfl) rfl (rn_lookOT (a := number) (f := f165) (b := b175) (intKL Tryd.underlying3) rfl rfl rfl Tryd.underlying63 filez hM179 hf166 hb176) ⟨hB162, hk163, hk164⟩ (fun a180 h180 => ?_); clear h150
   refine dk0 6 (v := .tuple #[.agg #[f165.1, .int .i64 f165.2.2.1, .bool f165.2.2.2], .bool b175]) h180 rfl rfl ⟨hB162, hk163, hk164⟩ fun a181 h181 => ?_; clear h180
   refine dk0 7 (v := .agg #[f165.1, .int .i64 f165.2.2.1, .bool f165.2.2.2]) h181 rfl rfl ⟨hB162, hk163, hk164⟩ fun a182 h182 => ?_; clear h181
   refine dk0 8 (v := .bool b175) h182 rfl rfl ⟨hB162, hk163, hk164⟩ fun a183 h183 => ?_; clear h182
   refine d1D 10 h183 rfl rfl (op_storeN rfl rfl rfl (all_cons (row_one hA167.1) (all_cons rfl (all_cons rfl all_nil))) (by kernel_rfl) hk154 rfl) ?_ ?_; clear h183
   ·
    rintro _ w185 ⟨hk186, hz187, hg188⟩
    have hk186' : Blk w185 N152 77 #[f165.1, .int .i64 f165.2.2.1, .bool f165.2.2.2] := hk186; clear hk186
    have hz189 := hg188.size
    have hB190 := fbU_at hB162 hg188 (fun hlt => absurd hlt (by omega))
    have hk191 := hk163.kept hg188 (by simp; omega)
    have hk192 := hk164.kept hg188 (by simp; omega)
    exact ⟨hB190, hk191, hk192⟩
   rintro _ w185 a184 ⟨hk186, hz187, hg188⟩ h184
   have hk186' : Blk w185 N152 77 #[f165.1, .int .i64 f165.2.2.1, .bool f165.2.2.2] := hk186; clear hk186
   have hz189 := hg188.size
   have hB190 := fbU_at hB162 hg188 (fun hlt => absurd hlt (by omega))
   have hk191 := hk163.kept hg188 (by simp; omega)
   have hk192 := hk164.kept hg188 (by simp; omega)
   refine dk0 11 (v := .bool b175) h184 rfl rfl ⟨hB190, hk191, hk192⟩ fun a193 h193 => ?_; clear h184
   refine dr_done (by kernel_rfl) ?_
   refine co_then ?_
   refine co_seq ?_
   refine co_reg ?_
   refine pk0 (v := .bool b175) h193 rfl fun a194 h194 => ?_; clear h193
   have hr196 := row_kept_new hr159 hg153
   have hr197 := row_kept_at hr196 hg188 (ha157)
   cases hc195 : (b175)
   ·
    rw [hc195] at h194
    refine pk0 (v := .bool true) h194 rfl fun a198 h198 => ?_; clear h194
    refine pl_nil ?_
    refine co_then ?_
    refine co_true h198 rfl ?_
    refine co_seq ?_
    refine co_reg ?_
    refine pk0 (v := .int .i64 7) h198 rfl fun a199 h199 => ?_; clear h198
    refine pl_nil ?_
    refine co_then ?_
    refine wp_ret ?_
    refine co_thenR ?_
    refine co_ret1 h199 rfl rfl ?_
    have hM200 := hM179.kept hg188 (by simp; omega)
    have hF201 := hF170.blk hk154 (by decide) hg188
    have hb9 := sm_of hO.rel hb176
    have hW := dp_no (s := s) (n := number) (by rw [hb9]; assumption)
    exact ⟨pv, g, c, by rw [hW.1], by rw [hW.2]; exact ⟨hk191, hM200, hr197, hF201, hO.sd, hO.sM, hO.sp, hO.rel⟩, by omega, hB190⟩
   ·
    rw [hc195] at h194
    refine pk0 (v := .bool false) h194 rfl fun a202 h202 => ?_; clear h194
    refine pl_nil ?_
    refine co_then ?_
    refine co_false h202 rfl ?_
    refine wp_skip ?_
    refine co_then ?_
    refine co_seq ?_
    refine dr_gen (fun x => But (S) w0 x ∧ Blk x d 66 #[.bool true, .map (some M), pv, .int .i64 s.ser, .int .i64 s.boots] ∧ Blk x N7 3 #[.int .i64 number]) (by kernel_rfl) (fun w203 hg204 => ?_) (fun w203 hg204 => ?_)
    ·
     have hz205 := hg204.size
     have hB206 := fbU_new hB190 hg204
     have hk207 := hk191.kept hg204 (by simp)
     have hk208 := hk192.kept hg204 (by simp)
     exact ⟨hB206, hk207, hk208⟩
    have hz209 := hg204.size
    have hB210 := fbU_new hB190 hg204
    have hk211 := hk191.kept hg204 (by simp)
    have hk212 := hk192.kept hg204 (by simp)
    refine dk0 0 (v := pt d 0) h202 rfl rfl ⟨hB210, hk211, hk212⟩ fun a213 h213 => ?_; clear h202
    refine dk0 1 (v := pt d 0) h213 rfl rfl ⟨hB210, hk211, hk212⟩ fun a214 h214 => ?_; clear h213
    refine dk0 2 (v := pt d 1) h214 rfl rfl ⟨hB210, hk211, hk212⟩ fun a215 h215 => ?_; clear h214
    refine dk 3 (v := .map (some M)) h215 rfl rfl ⟨hB210, hk211, hk212⟩ (fun x hx => (rn_load1 rfl rfl Tryd.isAgg63 (hx.2.1.cell rfl))) fun a216 h216 => ?_; clear h215
    refine dk 4 (v := .int .i64 number) h216 rfl rfl ⟨hB210, hk211, hk212⟩ (fun x hx => (rn_load1 rfl rfl Tryd.isAgg3 (hx.2.2.cell rfl))) fun a217 h217 => ?_; clear h216
    have hM223 := hM179.kept hg188 (by simp; omega)
    have hM224 := hM223.kept hg204 (by simp)
    refine d1D 5 h217 rfl rfl (op_deleteO (a := number) (intKL Tryd.underlying3) rfl rfl rfl Tryd.underlying63 hM224) ?_ ?_; clear h217
    ·
     rintro _ w219 ⟨hm220, hz221, hg222⟩
     have hF226 := hF170.blk hk154 (by decide) hg188
     have hF227 := hF226.new hg204
     have hF225 := hF227.del number
     have hz228 := hg222.size
     have hl229 := hm220.lt
     have hB230 := fbU_at hB210 hg222 (fun hlt => by rcases hO.sM with hq | hq; exact hq; omega)
     have hk231 := hk211.kept hg222 (by simp; omega)
     have hk232 := hk212.kept hg222 (by simp; omega)
     exact ⟨hB230, hk231, hk232⟩
    rintro _ w219 a218 ⟨hm220, hz221, hg222⟩ h218
    have hF226 := hF170.blk hk154 (by decide) hg188
    have hF227 := hF226.new hg204
    have hF225 := hF227.del number
    have hz228 := hg222.size
    have hl229 := hm220.lt
    refine dr_done (by kernel_rfl) ?_
    refine co_then ?_
    refine co_seq ?_
    refine co_reg ?_
    refine pk0 (v := pt d 0) h218 rfl fun a230 h230 => ?_; clear h218
    refine pk0 (v := pt d 0) h230 rfl fun a231 h231 => ?_; clear h230
    refine pk0 (v := pt d 0) h231 rfl fun a232 h232 => ?_; clear h231
    refine pk0 (v := pt d 2) h232 rfl fun a233 h233 => ?_; clear h232
    have hk234 := hk211.kept hg222 (by simp; omega)
    refine pk (v := pv) h233 rfl (rn_load1 rfl rfl Tryd.isAgg64 (hk234.cell rfl)) fun a235 h235 => ?_; clear h233
    refine pk0 (v := .func (.func 69) #[] #[pt N7 0]) h235 rfl fun a236 h236 => ?_; clear h235
    have hB239 := fbU_at hB210 hg222 (fun hlt => by rcases hO.sM with hq | hq; exact hq; omega)
    have hr240 := row_kept_new hr197 hg204
    have hr241 := row_kept_at hr240 hg222 (hM224.row hr240)
    have hr242 := row_kept_at hA167.1 hg188 (own_neT hA167.1 hk154 (by decide))
    have hr243 := row_kept_new hr242 hg204
    have hr244 := row_kept_at hr243 hg222 (hM224.row hr243)
    have hk245 := hk186'.kept hg204 (by simp)
    have hk246 := hk245.kept hg222 (by simp; omega)
    refine pw h236 rfl (op_call (args := #[pv, .func (.func 69) #[] #[pt N7 0]]) (R := fun res xw => pv = res ∧ w219 = xw) rfl rfl rfl (by kernel_rfl) (by kernel_rfl) (Tryd.call68 _ _) (pdel0 pv (.func (.func 69) #[] #[pt N7 0]) w219 s.ps (row_sl hr241 pieceE_len) hps) (by rintro e x ⟨rfl, h⟩; exact ⟨_, rfl, rfl, h⟩)) ?_; clear h236
    rintro _ _ a237 ⟨rfl, rfl⟩ h237
    refine pk0 (v := pt d 0) h237 rfl fun a247 h247 => ?_; clear h237
    refine pk0 (v := pt d 2) h247 rfl fun a248 h248 => ?_; clear h247
    refine pwD h248 rfl (op_store1 rfl rfl rfl (row_one hr241) Tryd.sizeOf64 hk234 rfl) ?_; clear h248
    rintro _ w250 a249 ⟨hk251, hz252, hg253⟩ h249
    have hk251' : Blk w250 d 66 #[.bool true, .map (some M), pv, .int .i64 s.ser, .int .i64 s.boots] := hk251; clear hk251
    have hz254 := hg253.size
    refine pl_nil ?_
    refine co_then ?_
    refine co_seq ?_
    refine co_reg ?_
    refine pk0 (v := .int .i64 0) h249 rfl fun a255 h255 => ?_; clear h249
    refine pl_nil ?_
    refine co_then ?_
    refine wp_ret ?_
    refine co_ret1 h255 rfl rfl ?_
    have hM256 := hm220.kept hg253 (by simp; omega)
    have hr257 := row_kept_at hr241 hg253 (own_neT hr241 hk234 (by decide))
    have hF258 := hF225.map hM224 hg222
    have hF259 := hF258.blk hk234 (by decide) hg253
    have hB260 := fbU_at hB239 hg253 (fun hlt => by rcases hO.sd with hq | hq; exact hq; omega)
    have hb9 := sm_of hO.rel hb176
    have hW := dp_ok (s := s) (n := number) (by rw [hb9]; assumption)
    exact ⟨_, _, _, by rw [hW], ⟨hk251', hM256, hr257, hF259, hO.sd, hO.sM, hO.sp, dp_rel hO.rel⟩, by omega, hB260⟩

theorem tDrop {base d c : Nat} {s : DkS} (w : World) (n : Int) (h : DObj base w d c s) (hps : s.ps.length = 0) : Calls Tryd.prog 58 #[pt d 0, .int .i64 n] w fun e w' => e = .returned (.int .i64 (dpE s n)) ∧ DObj base w' d c (dpS s n) ∧ ButD base w w' := by
  have hlo := h.lo
  obtain ⟨M, pv, g, c', hc, hP⟩ := h
  exact (dDrop_any w (SD base w) d M pv g c' s n w (But.refl _ _) hP.up hps).mono fun e x ⟨pv', g', c2, h1, h2, h3, h4⟩ => ⟨h1, ⟨M, pv', g', c2, by omega, h2.dn hlo⟩, h4⟩

end Go.Proofs.YtfiplhnplmadmaaDoor

/- Package point, pure: checkpoints in a log; a log beside other files. Conditions: none. -/
namespace Go.Proofs.YtfiplhnplmadmaaDoor
open Go.RowKit Go.PlainAid
set_option linter.unusedVariables false

def tT (s : ByteArray) : ByteArray := (⟨#[84]⟩ : ByteArray) ++ s
def hdP (n : Nat) : ByteArray := (⟨#[80]⟩ : ByteArray) ++ ⟨(putL (n : Int)).toArray⟩
def isT (s : ByteArray) : Bool := decide (0 < s.size) && ((s.extract 0 1).toList == (⟨#[84]⟩ : ByteArray).toList)
def ownB (l : List ByteArray) : List ByteArray := l.filterMap fun s => if isT s = true then some (s.extract 1 s.size) else none
theorem ext_one (c : UInt8) (s : ByteArray) : (((⟨#[c]⟩ : ByteArray) ++ s).extract 0 1) = ⟨#[c]⟩ := by
  apply bytes_eq; rw [ext_list, app_list]; simp
theorem one_size (c : UInt8) (s : ByteArray) : ((⟨#[c]⟩ : ByteArray) ++ s).size = s.size + 1 := by rw [bsz_app]; show 1 + s.size = s.size + 1; omega
theorem ext_rest1 (c : UInt8) (s : ByteArray) : (((⟨#[c]⟩ : ByteArray) ++ s).extract 1 ((⟨#[c]⟩ : ByteArray) ++ s).size) = s := by
  apply bytes_eq; rw [ext_list, one_size, app_list]
  have : ((⟨#[c]⟩ : ByteArray).data.toList ++ s.data.toList).length = s.size + 1 := by rw [List.length_append, list_len]; show 1 + s.size = _; omega
  rw [List.take_of_length_le (by omega)]
  rfl
theorem isT_tT (s : ByteArray) : isT (tT s) = true := by
  unfold isT tT; rw [ext_one, decide_eq_true (by rw [one_size]; omega)]; simp
theorem isT_hd (n : Nat) : isT (hdP n) = false := by
  unfold isT hdP; rw [ext_one]
  have : ((⟨#[80]⟩ : ByteArray).toList == (⟨#[84]⟩ : ByteArray).toList) = false := by rw [toList_data, toList_data]; decide
  rw [this]; simp
theorem own_app (a b : List ByteArray) : ownB (a ++ b) = ownB a ++ ownB b := by unfold ownB; rw [List.filterMap_append]
theorem own_tT (L : List ByteArray) : ownB (L.map tT) = L := by
  induction L with
  | nil => rfl
  | cons x r ih =>
    have : ownB (tT x :: r.map tT) = (tT x).extract 1 (tT x).size :: ownB (r.map tT) := by
      unfold ownB; rw [List.filterMap_cons, if_pos (isT_tT x)]
    rw [List.map_cons, this, ih]; unfold tT; rw [ext_rest1]
theorem own_hd (n : Nat) (l : List ByteArray) : ownB (hdP n :: l) = ownB l := by
  unfold ownB; rw [List.filterMap_cons, if_neg (by rw [isT_hd]; decide)]
theorem own_log (n : Nat) (L : List ByteArray) : ownB (hdP n :: L.map tT) = L := by rw [own_hd, own_tT]
def isP (s : ByteArray) : Bool := decide (0 < s.size) && ((s.extract 0 1).toList == (⟨#[80]⟩ : ByteArray).toList)
/-- What a text tells of a checkpoint. -/
def cntB (s : ByteArray) : Int × Bool := if isP s = true then ((getR s 1).1, decide ((getR s 1).2.2 = 0) && decide ((getR s 1).2.1 = (s.size : Int))) else (0, false)
theorem isP_hd (n : Nat) : isP (hdP n) = true := by
  unfold isP hdP; rw [ext_one, decide_eq_true (by rw [one_size]; omega)]; simp
theorem isP_tT (s : ByteArray) : isP (tT s) = false := by
  unfold isP tT; rw [ext_one]
  have : ((⟨#[84]⟩ : ByteArray).toList == (⟨#[80]⟩ : ByteArray).toList) = false := by rw [toList_data, toList_data]; decide
  rw [this]; simp
theorem hd_size (n : Nat) : ((hdP n).size : Int) = 1 + lenOf (n : Int) := by
  unfold hdP; rw [one_size]
  have h : (⟨(putL (n : Int)).toArray⟩ : ByteArray).size = (putL (n : Int)).length := by simp [ByteArray.size]
  have := putL_len (n : Int)
  omega
theorem cnt_hd (n : Nat) (hn : n < 1000000) : cntB (hdP n) = ((n : Int), true) := by
  unfold cntB; rw [if_pos (isP_hd n)]
  have hs := hd_size n
  have hp := putL_len (n : Int)
  have hh : has (hdP n) 1 (putL (n : Int)) := fun j hj => by
    rw [bt_data]
    unfold hdP; rw [app_list, List.getD_eq_getElem?_getD, List.getElem?_append_right (by show 1 ≤ 1 + j; omega)]
    show ((((putL (n : Int)).toArray.toList)[1 + j - 1]?.getD 0).toNat : Int) = _
    rw [show 1 + j - 1 = j by omega]
    simp [hj]
  have h := get_put (s := hdP n) (a := 1) (n : Int) (by omega) (by omega) (by omega) hh
  have h : getR (hdP n) 1 = ((n : Int), 1 + lenOf (n : Int), 0) := h
  rw [h, hs]; simp
theorem cnt_tT (s : ByteArray) : cntB (tT s) = (0, false) := by unfold cntB; rw [if_neg (by rw [isP_tT]; decide)]
/-- What a file tells of a checkpoint. -/
def begB (y : WSeg) : Int × Bool := match y.T with
  | [] => (0, false)
  | x :: _ => cntB x
theorem seg_next {y : WSeg} (h : SegOk y) : begB y = (if (nextR y.b 0).2.2 = 0 then cntB (nextR y.b 0).1 else (0, false)) := by
  obtain ⟨hr, he⟩ := seg_all h
  unfold begB
  cases hT : y.T with
  | nil =>
    rw [hT] at hr he
    show (0, false) = _
    rw [if_neg]
    have h0 : ((catF ([] : List ByteArray)).size : Int) = 0 := rfl
    rw [h0] at he
    rcases he with ⟨h1, h2⟩ | ⟨h1, h2, h3⟩
    · intro hz
      have := next_adv y.b 0 hz
      omega
    · rw [← h2]; exact h3
  | cons x r =>
    rw [hT] at hr
    obtain ⟨h1, h2, h3, h4⟩ := hr
    show cntB x = _
    rw [if_pos h2, h3]
/-- A disk's files from first on are A's (C's bytes are safe); below first they are as old says. -/
structure WSG (s : DkS) (first : Int) (A : List WSeg) (xs : List ByteArray) (old : Int → Option FileM) (p0 : List PcT) : Prop where
  on : ∀ k, s.fm k = if first ≤ k then flW first (xs.foldl appA A) A k else old k
  ps : s.ps = p0 ++ pcsA first A xs
  lo : ∀ p ∈ p0, p.1 < first
  ok : OkA A
  tx : ∀ x ∈ xs, x.size ≤ 65536
def fmR (fm : Int → Option FileM) (first : Int) : Int → Option FileM := fun k => if first ≤ k then fm k else none
theorem WSG.onD {s : DkS} {first : Int} {A : List WSeg} {xs : List ByteArray} {old : Int → Option FileM} {p0 : List PcT} (h : WSG s first A xs old p0) : OnD (fmR s.fm first) first (xs.foldl appA A) A := fun k => by
  unfold fmR
  by_cases hl : first ≤ k
  · rw [if_pos hl, h.on k, if_pos hl]
  · rw [if_neg hl]; unfold flW; rw [if_neg hl]
theorem WSG.logs {s : DkS} {first : Int} {A : List WSeg} {xs : List ByteArray} {old : Int → Option FileM} {p0 : List PcT} (h : WSG s first A xs old p0) : Logs s.fm first (xs.foldl appA A) := by
  obtain ⟨h1, h2⟩ := h.onD.logs (fun i hi => some_run xs A i hi) (h.ok.run h.tx)
  refine ⟨h1, fun i => ?_⟩
  have h3 := h2 i
  have e : fmR s.fm first (first + (i : Int)) = s.fm (first + (i : Int)) := by unfold fmR; rw [if_pos (by omega)]
  rw [e] at h3
  refine ⟨h3.1, ?_⟩
  have := h3.2
  unfold getF at this ⊢
  rw [e] at this; exact this
theorem WSG.toW {s : DkS} {first : Int} {A : List WSeg} {xs : List ByteArray} {old : Int → Option FileM} (h : WSG s first A xs old []) (ho : ∀ k, k < first → old k = none) : WSt s first A xs :=
  ⟨fun k => by (rw [h.on k]; by_cases hl : first ≤ k; exact if_pos hl; rw [if_neg hl, ho k (by omega)]; unfold flW; rw [if_neg hl]), h.ps, h.ok, h.tx⟩
/-- Another log begins behind all files of a disk. -/
theorem WSG.new {s : DkS} {first : Int} (hf : ∀ k, first ≤ k → s.fm k = none) (hp : ∀ p ∈ s.ps, p.1 < first) : WSG s first [] [] s.fm s.ps :=
  ⟨fun k => by (by_cases hl : first ≤ k; (rw [if_pos hl, hf k hl]; unfold flW; simp); exact (if_neg hl).symm), by simp [pcsA], hp, fun y hy => (by cases hy), fun y hy => (by cases hy)⟩
theorem WSG.write {s : DkS} {first : Int} {A : List WSeg} {xs : List ByteArray} {old : Int → Option FileM} {p0 : List PcT} (h : WSG s first A xs old p0) {x : ByteArray} (hx : x.size ≤ 65536) (hn : wrE (hereA first (xs.foldl appA A)) = 0) : WSG (wrS s (hereA first (xs.foldl appA A)) (frameB x)) first A (xs ++ [x]) old p0 := by
  have hge : first ≤ hereA first (xs.foldl appA A) := by unfold hereA; omega
  have hD := h.onD.put (f := appS x) (t := (frameB x).data.toList) (fun i hi => some_run xs A i hi) (fun k => byt_app _ x k)
  unfold wrS; rw [if_pos hn]
  refine ⟨fun k => ?_, ?_, h.lo, h.ok, fun z hz => ?_⟩
  · show putF s.fm _ _ k = _
    have e0 : getF (fmR s.fm first) (hereA first (xs.foldl appA A)) = getF s.fm (hereA first (xs.foldl appA A)) := by unfold getF fmR; rw [if_pos hge]
    rw [e0] at hD
    have h1 := hD k
    by_cases hl : first ≤ k
    · rw [if_pos hl, fapp_snoc]
      rw [show appA (xs.foldl appA A) x = putA (xs.foldl appA A) (appS x) from rfl, ← h1]
      unfold putF fmR
      by_cases hk : k = hereA first (xs.foldl appA A)
      · rw [if_pos hk, if_pos hk]
      · rw [if_neg hk, if_neg hk, if_pos hl]
    · rw [if_neg hl]
      unfold putF; rw [if_neg (by omega), h.on k, if_neg hl]
  · show s.ps ++ _ = _
    rw [h.ps, pcs_snoc, List.append_assoc]
  · rcases List.mem_append.1 hz with hz | hz
    · exact h.tx z hz
    · simp at hz; subst hz; exact hx
theorem getF_R (fm : Int → Option FileM) {first k : Int} (h : first ≤ k) : getF (fmR fm first) k = getF fm k := by unfold getF fmR; rw [if_pos h]
theorem syn_R (ps : List PcT) (fm : Int → Option FileM) (first : Int) : ∀ k, first ≤ k → synF fm ps k = synF (fmR fm first) (ps.filter fun p => decide (first ≤ p.1)) k := by
  induction ps generalizing fm with
  | nil => intro k hk; show fm k = fmR fm first k; unfold fmR; rw [if_pos hk]
  | cons p r ih =>
    intro k hk
    show synF (putF fm p.1 _) r k = _
    rw [ih _ k hk]
    by_cases hp : first ≤ p.1
    · rw [List.filter_cons_of_pos (by simpa using hp)]
      show _ = synF (putF (fmR fm first) p.1 _) _ k
      congr 1
      funext j
      unfold fmR putF
      by_cases hj : first ≤ j
      · rw [if_pos hj]
        by_cases e : j = p.1
        · rw [if_pos e, if_pos e]; rw [show getF (fun k => if first ≤ k then fm k else none) p.1 = getF fm p.1 from getF_R fm hp]
        · rw [if_neg e, if_neg e]; exact (if_pos hj).symm
      · rw [if_neg hj, if_neg (by intro e; omega)]; exact (if_neg hj).symm
    · rw [List.filter_cons_of_neg (by simpa using hp)]
      congr 1
      funext j
      unfold fmR putF
      by_cases hj : first ≤ j
      · rw [if_pos hj, if_pos hj, if_neg (by intro e; omega)]
      · rw [if_neg hj, if_neg hj]
theorem WSG.sync {s : DkS} {first : Int} {A : List WSeg} {xs : List ByteArray} {old : Int → Option FileM} {p0 : List PcT} (h : WSG s first A xs old p0) : WSG (synS s) first (xs.foldl appA A) [] (fun k => if first ≤ k then none else synF s.fm s.ps k) [] := by
  have hpl : ∀ (xs : List ByteArray) (A : List WSeg), ∀ p ∈ pcsA first A xs, first ≤ p.1 := by
    intro xs
    induction xs with
    | nil => intro A p hp; cases hp
    | cons x r ih => intro A p hp; rcases List.mem_cons.1 hp with rfl | hp; show first ≤ first + (atA A : Int); omega; exact ih _ p hp
  have hW : WSt ⟨fmR s.fm first, pcsA first A xs, s.ser, s.boots⟩ first A xs := ⟨h.onD, rfl, h.ok, h.tx⟩
  have hS := hW.sync
  refine ⟨fun k => ?_, rfl, fun p hp => (by cases hp), hS.ok, fun p hp => (by cases hp)⟩
  show synF s.fm s.ps k = _
  by_cases hl : first ≤ k
  · rw [if_pos hl]
    have h1 := hS.on k
    have h2 := syn_R s.ps s.fm first k hl
    have h3 : s.ps.filter (fun p => decide (first ≤ p.1)) = pcsA first A xs := by
      rw [h.ps, List.filter_append, List.filter_eq_nil_iff.2 (fun p hp => by have := h.lo p hp; simp; omega), List.nil_append, List.filter_eq_self.2 (fun p hp => by have := hpl xs A p hp; simpa using this)]
    rw [h2, h3]
    exact h1
  · rw [if_neg hl, if_neg hl]
theorem pcs_lt (first : Int) (xs : List ByteArray) (A : List WSeg) : ∀ p ∈ pcsA first A xs, p.1 < first + ((xs.foldl appA A).length : Int) := by
  induction xs generalizing A with
  | nil => intro p hp; cases hp
  | cons x r ih =>
    intro p hp
    rcases List.mem_cons.1 hp with rfl | hp
    · show first + (atA A : Int) < first + (((x :: r).foldl appA A).length : Int)
      have h1 : ((appA A x)[atA A]?).isSome = true := by unfold appA; rw [some_put]; simp
      have h2 := some_run r (appA A x) (atA A) h1
      have h3 := (List.getElem?_eq_some_iff.1 (Option.isSome_iff_exists.1 h2).choose_spec).1
      rw [List.foldl_cons]; omega
    · exact ih _ p hp
/-- The next log of a disk that bears just one. -/
theorem WSt.next {s : DkS} {first : Int} {A : List WSeg} {xs : List ByteArray} (h : WSt s first A xs) : WSG s (first + ((xs.foldl appA A).length : Int)) [] [] s.fm s.ps := by
  refine WSG.new (fun k hk => ?_) (fun p hp => ?_)
  · rw [h.on k]; unfold flW
    rw [if_pos (by omega), if_neg]
    intro hs
    have := (List.getElem?_eq_some_iff.1 (Option.isSome_iff_exists.1 hs).choose_spec).1
    omega
  · rw [h.ps] at hp; exact pcs_lt first xs A p hp
end Go.Proofs.YtfiplhnplmadmaaDoor

/- Package wal: Append, Last, Read on a log. Conditions: at most 800 calls. -/
namespace Go.Proofs.YtfiplhnplmadmaaDoor
open Go.RowKit Go.PlainAid Go.Shelf
set_option linter.unusedVariables false
section
variable {base d m N : Nat} {first : Int} {A : List WSeg} {xs : List ByteArray} {w x : World}
set_option maxRecDepth 100000 in
set_option maxHeartbeats 4000000 in
theorem wlLast (w : World) (hW : Blk w N 41 #[.bool true, pt d 0, .int .i64 first]) (h : WlO base w d m first A xs) (hm : m ≤ 900) (ht : Tab w) (hb : 0 < base) : Calls Tryd.prog 17 #[pt N 0] w fun e w' => e = .returned (.int .i64 (hereA first (xs.foldl appA A))) ∧ WlO base w' d m first A xs ∧ ButD base w w' := by
  have c0 := hW.cell (k := 0) rfl; have c1 : w.cell? ⟨N, 1, none⟩ = some (.pointer (some ⟨d, 0, none⟩)) := hW.cell (k := 1) rfl; have c2 := hW.cell (k := 2) rfl
  have HO := Lib.hid h; have HT := Lib.hid ht; have HM := Lib.hid hm
  clear h ht hW hm
  go_enter Tryd.func17, Tryd.ntmps17
  simp only [pt]
  go_wp2_with fail
  go_region_law (first | (go_simp; go_at_call 33; refine (wlHere _ (HO.out.new (drew_grown _)) HM.out (HT.out.below (grown_below (drew_grown _))) hb).mono ?_; rintro e w2 ⟨rfl, h2, hb2⟩))
  all_goals (go_wp2; go_ret; exact ⟨rfl, h2, butD_tr (But.of_below (grown_below (drew_grown _))) hb2⟩)
set_option maxRecDepth 100000 in
set_option maxHeartbeats 4000000 in
theorem wlRead (w : World) (h : WlO base w d m first A xs) (hm : m ≤ 900) (ht : Tab w) (hb : 0 < base) : Calls Tryd.prog 16 #[pt d 0, .int .i64 first] w fun e w' => ∃ u, e = .returned (.tuple #[u, .int .i64 (hereA first (xs.foldl appA A))]) ∧ w'.ownsRow w.heap.size 9 1 u (txtA A ++ xs).length ((txtA A ++ xs).flatMap strE) ∧ WlO base w' d m first A xs ∧ ButD base w w' := by
  have HO := Lib.hid h; have HT := Lib.hid ht; have HM := Lib.hid hm
  clear h ht hm
  go_enter Tryd.func16, Tryd.ntmps16
  simp only [pt]
  go_wp2_with fail
  refine (wlOpen w HO.out HM.out HT.out hb).mono ?_
  rintro e w1 ⟨N, u, rfl, hW, hr, h1, hb1⟩
  have HW := Lib.hid hW; have HR := Lib.hid hr; have H1 := Lib.hid h1; have HB1 := Lib.hid hb1
  clear hW hr h1 hb1
  go_wp2_with fail
  refine (wlLast w1 HW.out H1.out HM.out (tab_butD HT.out HB1.out hb) hb).mono ?_
  rintro e w2 ⟨rfl, h2, hb2⟩
  have HR2 := Lib.hid (rowD HR.out (by decide) hb2); have H2 := Lib.hid h2; have HB2 := Lib.hid (butD_tr HB1.out hb2)
  clear h2 hb2
  go_wp2
  go_ret2
  exact ⟨_, rfl, HR2.out, H2.out, HB2.out⟩
set_option maxRecDepth 100000 in
set_option maxHeartbeats 4000000 in
theorem wlAppend (w : World) (t : ByteArray) (hW : Blk w N 41 #[.bool true, pt d 0, .int .i64 first]) (h : WlO base w d m first A xs) (hm : m ≤ 800) (ht : Tab w) (hb : 0 < base) (hsz : t.size ≤ 65536) : Calls Tryd.prog 12 #[pt N 0, .string t] w fun e w' => e = .returned (.int .i64 0) ∧ WlO base w' d (m + 1) first A (xs ++ [t]) ∧ ButD base w w' := by
  have c0 := hW.cell (k := 0) rfl; have c1 : w.cell? ⟨N, 1, none⟩ = some (.pointer (some ⟨d, 0, none⟩)) := hW.cell (k := 1) rfl; have c2 := hW.cell (k := 2) rfl
  have HO := Lib.hid h; have HT := Lib.hid ht; have HM := Lib.hid hm; have HW := Lib.hid hW
  clear h ht hW hm
  go_enter Tryd.func12, Tryd.ntmps12
  simp only [pt]
  go_wp2_with fail
  refine (put_frame t w HT.out (by omega)).mono ?_
  rintro e w1 ⟨rfl, hb1⟩
  have e1 : putR t = (frameB t, 0) := by unfold putR; rw [if_neg (by omega)]
  rw [e1]; unfold putV
  have HB1 := Lib.hid hb1; have H1 := Lib.hid (HO.out.call hb1); have HT1 := Lib.hid (HT.out.below hb1)
  have hW1 := HW.out.below hb1
  have d1 := hW1.cell (k := 1) rfl; have d2 := hW1.cell (k := 2) rfl
  simp only [pt] at d1
  have HW1 := Lib.hid hW1
  clear hb1 e1 hW1 c0 c1 c2
  dsimp only
  go_wp2_with fail
  go_region_law (first | (go_simp; go_at_call 33; refine (wlHere _ (H1.out.new (drew_grown _)) (by have := HM.out; omega) (HT1.out.below (grown_below (drew_grown _))) hb).mono ?_; rintro e w2 ⟨rfl, h2, hb2⟩; have HW2 := HW1.out.below (grown_below (drew_grown _)); have hq := Blk.grW HW2 (by decide) hb2; have k1 := hq.cell (k := 1) rfl; have k2 := hq.cell (k := 2) rfl; simp only [pt] at k1; have H2 := Lib.hid h2; have HB2 := Lib.hid hb2; clear h2 hb2 hq HW2) | (go_simp; go_at_call 28; refine (wlWrite _ t H2.out HM.out hsz).mono ?_; rintro e w3 ⟨rfl, h3, hb3⟩))
  all_goals (go_wp2; go_ret; exact ⟨rfl, h3, butD_tr (butD_tr (But.of_below HB1.out) (butD_tr (But.of_below (grown_below (drew_grown _))) HB2.out)) hb3⟩)
end
end Go.Proofs.YtfiplhnplmadmaaDoor

/- catenalaw12: short, awake; lists of texts that read alike. Conditions: a laid table. -/
namespace Go.Proofs.YtfiplhnplmadmaaDoor
open Go.RowKit Go.PlainAid
set_option linter.unusedVariables false
set_option linter.unusedSimpArgs false


theorem strE_lenW (y : ByteArray) : (strE y).length = 1 := rfl
/-- A call of stage 12. -/
structure WActT where
  k : Int
  s : ByteArray
  n : Int
  file : Int
instance : Inhabited WActT := ⟨⟨0, ⟨#[]⟩, 0, 0⟩⟩
theorem sl_castW {w : World} {v : Value} {l l' : List ByteArray} (h : SliceOf strE 1 w v l) (e : l = l') : SliceOf strE 1 w v l' := e ▸ h
end Go.Proofs.YtfiplhnplmadmaaDoor

/- Package point: own, count. Conditions: none. -/
namespace Go.Proofs.YtfiplhnplmadmaaDoor
open Go.RowKit Go.PlainAid
set_option linter.unusedVariables false
set_option linter.unusedSimpArgs false


theorem own_yes {l : List ByteArray} {i : Nat} {y : ByteArray} (hy : l[i]? = some y) (h0 : 0 < y.size) (h : ((y.extract 0 1).toList == (⟨#[84]⟩ : ByteArray).toList) = true) : ownB (l.take i) ++ [y.extract 1 y.size] = ownB (l.take (i + 1)) := by
  rw [List.take_add_one, hy, own_app]; congr 1
  show _ = ownB [y]
  unfold ownB; rw [List.filterMap_cons, if_pos (by unfold isT; rw [decide_eq_true h0, h]; rfl)]; rfl
theorem own_no {l : List ByteArray} {i : Nat} {y : ByteArray} (hy : l[i]? = some y) (h : ((y.extract 0 1).toList == (⟨#[84]⟩ : ByteArray).toList) = false) : ownB (l.take i) = ownB (l.take (i + 1)) := by
  rw [List.take_add_one, hy, own_app]
  show _ = _ ++ ownB [y]
  have : ownB [y] = [] := by unfold ownB; rw [List.filterMap_cons, if_neg (by unfold isT; rw [h]; simp)]; rfl
  rw [this, List.append_nil]
theorem own_none {l : List ByteArray} {i : Nat} {y : ByteArray} (hy : l[i]? = some y) (h : ¬ 0 < y.size) : ownB (l.take i) = ownB (l.take (i + 1)) := by
  rw [List.take_add_one, hy, own_app]
  show _ = _ ++ ownB [y]
  have : ownB [y] = [] := by unfold ownB; rw [List.filterMap_cons, if_neg (by unfold isT; rw [decide_eq_false h]; simp)]; rfl
  rw [this, List.append_nil]
theorem own_le (l : List ByteArray) (i : Nat) : (ownB (l.take i)).length ≤ i := Nat.le_trans (List.length_filterMap_le _ _) (List.length_take_le _ _)
theorem cnt_n0 {s : ByteArray} (h : ¬ 0 < s.size) : cntB s = (0, false) := by unfold cntB isP; rw [decide_eq_false h]; rfl
theorem cnt_n1 {s : ByteArray} (h : ((s.extract 0 1).toList == (⟨#[80]⟩ : ByteArray).toList) = false) : cntB s = (0, false) := by unfold cntB isP; rw [h, Bool.and_false]; rfl
theorem cnt_y {s : ByteArray} (h0 : 0 < s.size) (h : ((s.extract 0 1).toList == (⟨#[80]⟩ : ByteArray).toList) = true) : cntB s = ((getR s 1).1, decide ((getR s 1).2.2 = 0) && decide ((getR s 1).2.1 = (s.size : Int))) := by unfold cntB isP; rw [h, decide_eq_true h0]; rfl
section
variable {P : Program} {m : List (Nat × Value)} {o : Oper} {w : World}
theorem rn_sliceStrFrom {t : TypeId} {q r : Operand} {k : IntKind} {s : ByteArray} {i : Int} {j : Nat} (ho : o.op = .slice t q (some r) none none) (hq : ev m q = some (.string s)) (hr : ev m r = some (.int k i)) (ht : P.underlying t = some .string) (hij : i = (j : Nat)) (hj : j ≤ s.size) : (execOp (lk m) o).run P w = .ok (.value (.string (s.extract j s.size))) w := by
  subst hij
  have hrun : (Instr.slice t (.string s) (some (.int k ((j : Nat) : Int))) none none).run P w = .ok (.string (s.extract j s.size)) w := by
    rw [run_slice_string_l (s := s) (ht := ht) (kl := k) (l := ((j : Nat) : Int)) (h0 := by omega) (h1 := by omega)]; rfl
  unfold execOp
  simp only [ho, Option.map_some, Option.map_none, lk_ev hq, lk_ev hr, run_sliceAt_string (h := ht), hrun, Sem.run_bind, Result.andThen_ok, Sem.run_pure]
end
theorem nb_f {b : Bool} (h : (!b) = true) : b = false := by simpa using h
theorem nb_t {b : Bool} (h : (!b) = false) : b = true := by simpa using h
theorem beq_dec (a b : Int) : (a == b) = decide (a = b) := by by_cases h : a = b <;> simp [h]

set_option maxRecDepth 100000 in
theorem own_any (v : Value) (l : List ByteArray) (w : World) (hs : SliceOf strE 1 w v l) (hlen : l.length ≤ 1000000) :
    Calls Tryd.prog 39 #[v] w fun e w' => ∃ (u : Value), e = .returned (u) ∧ w'.ownsRow w.heap.size 9 1 u (ownB l).length ((ownB l).flatMap strE) ∧ Below w.heap.size w w' := by
 have hB0 := Below.refl w.heap.size w
 have hl_hs := sl_len hs
 refine co_enter (n := 27) Tryd.func39 rfl rfl rfl [(0, v)] rfl (fun a h0 => ?_)
 refine co_seq ?_
 refine co_reg ?_
 refine pk0 (v := .slice none 0 0) h0 rfl fun a1 h1 => ?_; clear h0
 refine pl_nil ?_
 refine co_then ?_
 refine co_seq ?_
 refine co_reg ?_
 refine pk0 (v := .slice none 0 0) h1 rfl fun a2 h2 => ?_; clear h1
 refine pl_nil ?_
 refine co_then ?_
 refine co_seq ?_
 refine co_seq ?_
 refine co_reg ?_
 refine pk0 (v := v) h2 rfl fun a3 h3 => ?_; clear h2
 refine pk (v := .int .i64 ((l.length : Nat) : Int)) h3 rfl (rn_len rfl rfl Tryd.underlying28 hs) fun a4 h4 => ?_; clear h3
 refine pk0 (v := .int .i64 0) h4 rfl fun a5 h5 => ?_; clear h4
 refine pl_nil ?_
 refine co_then ?_
 refine wp_block ?_
 have h6 : Slots 27 [(0, v), (3, .slice none 0 0), (6, v), (7, .int .i64 ((l.length : Nat) : Int)), (8, .int .i64 0)] _ := h5.sub ⟨rfl, rfl, rfl, rfl, rfl, trivial⟩; clear h5
 refine co_loop (fun mm a x => ∃ (i : Nat) (u : Value), Slots 27 [(0, v), (3, u), (6, v), (7, .int .i64 ((l.length : Nat) : Int)), (8, .int .i64 ((i : Nat) : Int))] a ∧ mm = l.length - i ∧ (i ≤ l.length) ∧ x.ownsRow w.heap.size 9 1 u (ownB (l.take i)).length ((ownB (l.take i)).flatMap strE) ∧ Below w.heap.size w x) (l.length - 0) ?_ ?_
 · exact ⟨0, (.slice none 0 0), h6.sub ⟨rfl, rfl, rfl, rfl, (slot_eq rfl (congrArg (Value.int .i64) (by first | rfl | omega))), trivial⟩, rfl, by omega, (row_nilL _ _ _ _ _), hB0⟩
 · rintro k7 a8 w9 ⟨i, u, h8, rfl, hi10, hf11, hB12⟩
   have hz13 := hB12.size
   have hol := own_le l i
   refine co_seq ?_
   refine co_reg ?_
   refine pk0 (v := .bool (decide (((i : Nat) : Int) < ((l.length : Nat) : Int)))) h8 rfl fun a14 h14 => ?_; clear h8
   refine pl_nil ?_
   refine co_then ?_
   refine co_seq ?_
   cases hc15 : (decide (((i : Nat) : Int) < ((l.length : Nat) : Int)))
   ·
    rw [hc15] at h14
    have hp16 : ¬ (((i : Nat) : Int) < ((l.length : Nat) : Int)) := of_decide_eq_false hc15
    clear hc15
    refine co_false h14 rfl ?_
    refine wp_exit ?_
    refine co_thenX ?_
    refine co_thenX ?_
    refine co_blockX ?_
    refine co_then ?_
    refine co_seq ?_
    refine co_reg ?_
    refine pk0 (v := u) h14 rfl fun a17 h17 => ?_; clear h14
    refine pk0 (v := u) h17 rfl fun a18 h18 => ?_; clear h17
    refine pl_nil ?_
    refine co_then ?_
    refine wp_ret ?_
    refine co_ret1 h18 rfl rfl ?_
    exact ⟨_, rfl, (row_eq (row_lows hf11 (by omega)) (by rw [List.take_of_length_le (by omega)])), hB12⟩
   ·
    rw [hc15] at h14
    have hp19 : ((i : Nat) : Int) < ((l.length : Nat) : Int) := of_decide_eq_true hc15
    clear hc15
    refine co_true h14 rfl ?_
    refine wp_skip ?_
    refine co_then ?_
    refine co_seq ?_
    refine wp_block ?_
    refine co_seq ?_
    refine co_reg ?_
    obtain ⟨y20, hy20⟩ : ∃ z, l[i]? = some z := ⟨_, List.getElem?_eq_getElem (by first | omega | (simp; done) | (simp; omega))⟩
    refine pk (v := pt (blkOf v) (offOf v + i * 1)) h14 rfl (rn_index rfl rfl rfl Tryd.underlying28 Tryd.sizeOf9 (hs.below hB12) (by omega) (by first | omega | (simp; done) | (simp; omega))) fun a21 h21 => ?_; clear h14
    refine pk (v := .string y20) h21 rfl (rn_load1 rfl rfl Tryd.isAgg9 ((sl_at (hs.below hB12) hy20) 0 _ rfl)) fun a22 h22 => ?_; clear h21
    refine pk0 (v := .string y20) h22 rfl fun a23 h23 => ?_; clear h22
    refine pl_nil ?_
    refine co_then ?_
    refine co_seq ?_
    refine co_reg ?_
    refine pk0 (v := .string y20) h23 rfl fun a24 h24 => ?_; clear h23
    refine pk (v := .int .i64 ((y20.size : Nat) : Int)) h24 rfl (rn_lenStr rfl rfl Tryd.underlying9) fun a25 h25 => ?_; clear h24
    refine pk0 (v := .bool (decide (((y20.size : Nat) : Int) > 0))) h25 rfl fun a26 h26 => ?_; clear h25
    refine pk0 (v := .bool (decide (((y20.size : Nat) : Int) > 0))) h26 rfl fun a27 h27 => ?_; clear h26
    cases hc28 : (decide (((y20.size : Nat) : Int) > 0))
    ·
     rw [hc28] at h27
     have hp29 : ¬ (((y20.size : Nat) : Int) > 0) := of_decide_eq_false hc28
     clear hc28
     refine psk h27 rfl fun a30 h30 => ?_; clear h27
     refine psk h30 rfl fun a31 h31 => ?_; clear h30
     refine psk h31 rfl fun a32 h32 => ?_; clear h31
     refine pk0 (v := .bool false) h32 rfl fun a33 h33 => ?_; clear h32
     refine pl_nil ?_
     refine co_then ?_
     refine co_false h33 rfl ?_
     refine wp_skip ?_
     refine co_blockN ?_
     refine co_then ?_
     refine co_reg ?_
     refine pk (v := .int .i64 ((i + 1 : Nat) : Int)) h33 rfl (rn_arith' rfl rfl rfl rfl rfl rfl (IntWalk.i64_in _ (by omega)) (by omega)) fun a34 h34 => ?_; clear h33
     refine pk0 (v := .int .i64 ((i + 1 : Nat) : Int)) h34 rfl fun a35 h35 => ?_; clear h34
     refine pl_nil ?_
     refine co_then ?_
     refine ⟨(l.length - (i + 1)), by omega, ?_⟩
     exact ⟨i + 1, u, h35.sub ⟨rfl, rfl, rfl, rfl, rfl, trivial⟩, rfl, by omega, (row_eq hf11 (by first | rfl | exact own_yes (by assumption) (by omega) (by assumption) | exact own_no (by assumption) (by assumption) | exact own_none (by assumption) (by omega))), hB12⟩
    ·
     rw [hc28] at h27
     have hp36 : ((y20.size : Nat) : Int) > 0 := of_decide_eq_true hc28
     clear hc28
     refine pk0 (v := .string y20) h27 rfl fun a37 h37 => ?_; clear h27
     refine pk (v := .string (y20.extract 0 1)) h37 rfl (rn_sliceStrTo (j := 1) rfl rfl rfl Tryd.underlying9 (by omega) (by omega)) fun a38 h38 => ?_; clear h37
     refine pk0 (v := .bool ((y20.extract 0 1 : ByteArray).toList == (⟨#[84]⟩ : ByteArray).toList)) h38 rfl fun a39 h39 => ?_; clear h38
     refine pk0 (v := .bool ((y20.extract 0 1 : ByteArray).toList == (⟨#[84]⟩ : ByteArray).toList)) h39 rfl fun a40 h40 => ?_; clear h39
     refine pl_nil ?_
     refine co_then ?_
     cases hc41 : ((y20.extract 0 1 : ByteArray).toList == (⟨#[84]⟩ : ByteArray).toList)
     ·
      rw [hc41] at h40
      refine co_false h40 rfl ?_
      refine wp_skip ?_
      refine co_blockN ?_
      refine co_then ?_
      refine co_reg ?_
      refine pk (v := .int .i64 ((i + 1 : Nat) : Int)) h40 rfl (rn_arith' rfl rfl rfl rfl rfl rfl (IntWalk.i64_in _ (by omega)) (by omega)) fun a42 h42 => ?_; clear h40
      refine pk0 (v := .int .i64 ((i + 1 : Nat) : Int)) h42 rfl fun a43 h43 => ?_; clear h42
      refine pl_nil ?_
      refine co_then ?_
      refine ⟨(l.length - (i + 1)), by omega, ?_⟩
      exact ⟨i + 1, u, h43.sub ⟨rfl, rfl, rfl, rfl, rfl, trivial⟩, rfl, by omega, (row_eq hf11 (by first | rfl | exact own_yes (by assumption) (by omega) (by assumption) | exact own_no (by assumption) (by assumption) | exact own_none (by assumption) (by omega))), hB12⟩
     ·
      rw [hc41] at h40
      refine co_true h40 rfl ?_
      refine co_reg ?_
      refine pk0 (v := u) h40 rfl fun a44 h44 => ?_; clear h40
      refine pk0 (v := .string y20) h44 rfl fun a45 h45 => ?_; clear h44
      refine pk (v := .string (y20.extract 1 y20.size)) h45 rfl (rn_sliceStrFrom (j := 1) rfl rfl rfl Tryd.underlying9 (by omega) (by omega)) fun a46 h46 => ?_; clear h45
      refine pw h46 rfl (op_new (v := fun N => .slice (some ⟨N, 0, none⟩) 1 1) (T := 9) (cs := #[.string (y20.extract 1 y20.size)]) (by kernel_rfl) (by kernel_rfl) (by kernel_rfl)) ?_; clear h46
      rintro _ w48 a47 ⟨N49, rfl, hN52, hz53, hk51, hg50⟩ h47
      have ha54 := row_fresh hf11 hN52
      have hz55 := hg50.size
      try dsimp only at h47
      have hr62 := row_kept_new hf11 hg50
      refine pw h47 rfl (op_append rfl w.heap.size 9 (z := .string (⟨#[]⟩)) (size := 1) (bytes := 16) Tryd.underlying28 (by kernel_rfl) rfl rfl rfl hr62 rfl hk51 rfl (by kernel_rfl) (by first | omega | (simp only [List.length_nil, List.length_append, List.length_cons, List.length_take, List.length_drop]; omega)) (by first | omega | (simp only [List.length_nil, List.length_append, List.length_cons, List.length_take, List.length_drop]; omega)) (by omega)) ?_; clear h47
      rintro v58 w57 a56 ⟨hr59, hg60⟩ h56
      have hr59' : w57.ownsRow w.heap.size 9 1 v58 (((ownB (l.take i)) ++ [y20.extract 1 y20.size]).length) (((ownB (l.take i)) ++ [y20.extract 1 y20.size]).flatMap strE) := row_push (y := y20.extract 1 y20.size) hr59 rfl rfl; clear hr59
      have hz63 := hg60.size
      refine pk0 (v := v58) h56 rfl fun a64 h64 => ?_; clear h56
      refine pl_nil ?_
      refine co_blockN ?_
      refine co_then ?_
      refine co_reg ?_
      refine pk (v := .int .i64 ((i + 1 : Nat) : Int)) h64 rfl (rn_arith' rfl rfl rfl rfl rfl rfl (IntWalk.i64_in _ (by omega)) (by omega)) fun a65 h65 => ?_; clear h64
      refine pk0 (v := .int .i64 ((i + 1 : Nat) : Int)) h65 rfl fun a66 h66 => ?_; clear h65
      refine pl_nil ?_
      refine co_then ?_
      refine ⟨(l.length - (i + 1)), by omega, ?_⟩
      have hB67 := hb_new hB12 hg50
      have hB68 := hb_row hB67 hr62 (by omega) hg60
      exact ⟨i + 1, v58, h66.sub ⟨rfl, rfl, rfl, rfl, rfl, trivial⟩, rfl, by omega, (row_eq hr59' (by first | rfl | exact own_yes (by assumption) (by omega) (by assumption) | exact own_no (by assumption) (by assumption) | exact own_none (by assumption) (by omega))), hB68⟩
set_option maxRecDepth 100000 in
theorem count_any (s : ByteArray) (w : World) (hsz : s.size ≤ 1000000000) :
    Calls Tryd.prog 67 #[.string s] w fun e w' => e = .returned (.tuple #[.int .u64 ((cntB s).1), .bool ((cntB s).2)]) ∧ Below w.heap.size w w' := by
 have hB0 := Below.refl w.heap.size w
 refine co_enter (n := 30) Tryd.func67 rfl rfl rfl [(0, .string s)] rfl (fun a h0 => ?_)
 refine co_seq ?_
 refine co_reg ?_
 refine pk0 (v := .int .u64 0) h0 rfl fun a1 h1 => ?_; clear h0
 refine pk0 (v := .bool false) h1 rfl fun a2 h2 => ?_; clear h1
 refine pl_nil ?_
 refine co_then ?_
 refine co_seq ?_
 refine co_seq ?_
 refine co_reg ?_
 refine pk0 (v := .string s) h2 rfl fun a3 h3 => ?_; clear h2
 refine pk (v := .int .i64 ((s.size : Nat) : Int)) h3 rfl (rn_lenStr rfl rfl Tryd.underlying9) fun a4 h4 => ?_; clear h3
 refine pk0 (v := .bool (((s.size : Nat) : Int) == 0)) h4 rfl fun a5 h5 => ?_; clear h4
 refine pk0 (v := .bool (((s.size : Nat) : Int) == 0)) h5 rfl fun a6 h6 => ?_; clear h5
 cases hc7 : (((s.size : Nat) : Int) == 0)
 ·
  rw [hc7] at h6
  have hp8 : ¬ (((s.size : Nat) : Int) = 0) := by first | simpa using hc7 | simpa [and_assoc] using hc7
  clear hc7
  refine pk0 (v := .string s) h6 rfl fun a9 h9 => ?_; clear h6
  refine pk (v := .string (s.extract 0 1)) h9 rfl (rn_sliceStrTo (j := 1) rfl rfl rfl Tryd.underlying9 (by omega) (by omega)) fun a10 h10 => ?_; clear h9
  refine pk0 (v := .bool (!((s.extract 0 1 : ByteArray).toList == (⟨#[80]⟩ : ByteArray).toList))) h10 rfl fun a11 h11 => ?_; clear h10
  refine pk0 (v := .bool (!((s.extract 0 1 : ByteArray).toList == (⟨#[80]⟩ : ByteArray).toList))) h11 rfl fun a12 h12 => ?_; clear h11
  refine pl_nil ?_
  refine co_then ?_
  cases hc13 : (!((s.extract 0 1 : ByteArray).toList == (⟨#[80]⟩ : ByteArray).toList))
  ·
   rw [hc13] at h12
   refine co_false h12 rfl ?_
   refine wp_skip ?_
   refine co_then ?_
   refine co_seq ?_
   refine co_reg ?_
   refine pk0 (v := .string s) h12 rfl fun a14 h14 => ?_; clear h12
   refine pw h14 rfl (op_call (args := #[.string s, .int .i64 1]) (R := fun res xw => res = .tuple #[.int .u64 ((getR s 1).1), .int .i64 ((getR s 1).2.1), .int .i64 ((getR s 1).2.2)] ∧ w = xw) rfl rfl rfl (by kernel_rfl) (by kernel_rfl) (Tryd.call81 _ _) (get_any s 1 w (by omega)) (by rintro e x ⟨rfl, h⟩; exact ⟨_, rfl, rfl, h⟩)) ?_; clear h14
   rintro _ _ a15 ⟨rfl, rfl⟩ h15
   refine pk0 (v := .tuple #[.int .u64 ((getR s 1).1), .int .i64 ((getR s 1).2.1), .int .i64 ((getR s 1).2.2)]) h15 rfl fun a17 h17 => ?_; clear h15
   refine pk0 (v := .int .u64 ((getR s 1).1)) h17 rfl fun a18 h18 => ?_; clear h17
   refine pk0 (v := .int .i64 ((getR s 1).2.1)) h18 rfl fun a19 h19 => ?_; clear h18
   refine pk0 (v := .int .i64 ((getR s 1).2.2)) h19 rfl fun a20 h20 => ?_; clear h19
   refine pk0 (v := .int .u64 ((getR s 1).1)) h20 rfl fun a21 h21 => ?_; clear h20
   refine pk0 (v := .int .i64 ((getR s 1).2.1)) h21 rfl fun a22 h22 => ?_; clear h21
   refine pk0 (v := .int .i64 ((getR s 1).2.2)) h22 rfl fun a23 h23 => ?_; clear h22
   refine pl_nil ?_
   refine co_then ?_
   refine co_seq ?_
   refine co_reg ?_
   refine pk0 (v := .int .u64 ((getR s 1).1)) h23 rfl fun a24 h24 => ?_; clear h23
   refine pk0 (v := .int .i64 ((getR s 1).2.2)) h24 rfl fun a25 h25 => ?_; clear h24
   refine pk0 (v := .bool ((getR s 1).2.2 == 0)) h25 rfl fun a26 h26 => ?_; clear h25
   refine pk0 (v := .bool ((getR s 1).2.2 == 0)) h26 rfl fun a27 h27 => ?_; clear h26
   cases hc28 : ((getR s 1).2.2 == 0)
   ·
    rw [hc28] at h27
    have hp29 : ¬ ((getR s 1).2.2 = 0) := by first | simpa using hc28 | simpa [and_assoc] using hc28
    clear hc28
    refine psk h27 rfl fun a30 h30 => ?_; clear h27
    refine psk h30 rfl fun a31 h31 => ?_; clear h30
    refine psk h31 rfl fun a32 h32 => ?_; clear h31
    refine psk h32 rfl fun a33 h33 => ?_; clear h32
    refine pk0 (v := .bool false) h33 rfl fun a34 h34 => ?_; clear h33
    refine pk0 (v := .int .u64 ((getR s 1).1)) h34 rfl fun a35 h35 => ?_; clear h34
    refine pk0 (v := .bool false) h35 rfl fun a36 h36 => ?_; clear h35
    refine pl_nil ?_
    refine co_then ?_
    refine wp_ret ?_
    refine co_ret2 h36 rfl rfl rfl ?_
    exact ⟨by first | (rw [cnt_n0 (by omega)]; done) | (rw [cnt_n1 (nb_f (by assumption))]; done) | (rw [cnt_y (by omega) (nb_t (by assumption))]; simp [beq_dec, *]; done), hB0⟩
   ·
    rw [hc28] at h27
    have hp37 : (getR s 1).2.2 = 0 := by first | simpa using hc28 | simpa [and_assoc] using hc28
    clear hc28
    refine pk0 (v := .int .i64 ((getR s 1).2.1)) h27 rfl fun a38 h38 => ?_; clear h27
    refine pk0 (v := .string s) h38 rfl fun a39 h39 => ?_; clear h38
    refine pk (v := .int .i64 ((s.size : Nat) : Int)) h39 rfl (rn_lenStr rfl rfl Tryd.underlying9) fun a40 h40 => ?_; clear h39
    refine pk0 (v := .bool ((getR s 1).2.1 == ((s.size : Nat) : Int))) h40 rfl fun a41 h41 => ?_; clear h40
    refine pk0 (v := .bool ((getR s 1).2.1 == ((s.size : Nat) : Int))) h41 rfl fun a42 h42 => ?_; clear h41
    refine pk0 (v := .int .u64 ((getR s 1).1)) h42 rfl fun a43 h43 => ?_; clear h42
    refine pk0 (v := .bool ((getR s 1).2.1 == ((s.size : Nat) : Int))) h43 rfl fun a44 h44 => ?_; clear h43
    refine pl_nil ?_
    refine co_then ?_
    refine wp_ret ?_
    refine co_ret2 h44 rfl rfl rfl ?_
    exact ⟨by first | (rw [cnt_n0 (by omega)]; done) | (rw [cnt_n1 (nb_f (by assumption))]; done) | (rw [cnt_y (by omega) (nb_t (by assumption))]; simp [beq_dec, *]; done), hB0⟩
  ·
   rw [hc13] at h12
   refine co_true h12 rfl ?_
   refine co_seq ?_
   refine co_reg ?_
   refine pk0 (v := .int .u64 0) h12 rfl fun a45 h45 => ?_; clear h12
   refine pk0 (v := .bool false) h45 rfl fun a46 h46 => ?_; clear h45
   refine pl_nil ?_
   refine co_then ?_
   refine wp_ret ?_
   refine co_thenR ?_
   refine co_ret2 h46 rfl rfl rfl ?_
   exact ⟨by first | (rw [cnt_n0 (by omega)]; done) | (rw [cnt_n1 (nb_f (by assumption))]; done) | (rw [cnt_y (by omega) (nb_t (by assumption))]; simp [beq_dec, *]; done), hB0⟩
 ·
  rw [hc7] at h6
  have hp47 : ((s.size : Nat) : Int) = 0 := by first | simpa using hc7 | simpa [and_assoc] using hc7
  clear hc7
  refine psk h6 rfl fun a48 h48 => ?_; clear h6
  refine psk h48 rfl fun a49 h49 => ?_; clear h48
  refine psk h49 rfl fun a50 h50 => ?_; clear h49
  refine pk0 (v := .bool true) h50 rfl fun a51 h51 => ?_; clear h50
  refine pl_nil ?_
  refine co_then ?_
  refine co_true h51 rfl ?_
  refine co_seq ?_
  refine co_reg ?_
  refine pk0 (v := .int .u64 0) h51 rfl fun a52 h52 => ?_; clear h51
  refine pk0 (v := .bool false) h52 rfl fun a53 h53 => ?_; clear h52
  refine pl_nil ?_
  refine co_then ?_
  refine wp_ret ?_
  refine co_thenR ?_
  refine co_ret2 h53 rfl rfl rfl ?_
  exact ⟨by first | (rw [cnt_n0 (by omega)]; done) | (rw [cnt_n1 (nb_f (by assumption))]; done) | (rw [cnt_y (by omega) (nb_t (by assumption))]; simp [beq_dec, *]; done), hB0⟩
end Go.Proofs.YtfiplhnplmadmaaDoor

/- Package point: beginning, row, whole. Conditions: files are segments. -/
namespace Go.Proofs.YtfiplhnplmadmaaDoor
open Go.RowKit Go.PlainAid Go.Shelf
set_option linter.unusedVariables false

theorem seg_text {y : WSeg} (h : SegOk y) (h0 : (nextR y.b 0).2.2 = 0) : (nextR y.b 0).1.size ≤ 65536 := by
  obtain ⟨hr, he⟩ := seg_all h
  cases hT : y.T with
  | nil =>
    rw [hT] at hr he
    have e0 : ((catF ([] : List ByteArray)).size : Int) = 0 := rfl
    rw [e0] at he
    rcases he with ⟨h1, h2⟩ | ⟨h1, h2, h3⟩
    · have := next_adv y.b 0 h0; omega
    · exact absurd (h2.trans h0) h3
  | cons x r =>
    rw [hT] at hr
    obtain ⟨h1, h2, h3, h4⟩ := hr
    rw [← h3]; exact h.1 x (by rw [hT]; exact List.mem_cons_self ..)
set_option maxRecDepth 100000 in
set_option maxHeartbeats 1600000 in
theorem beginning_any (y : WSeg) (w : World) (hy : SegOk y) (hsz : y.b.size ≤ 1000000000) (ht : Tab w) :
    Calls Tryd.prog 55 #[.string y.b] w fun e w' => e = .returned (.tuple #[.int .u64 (begB y).1, .bool (begB y).2]) ∧ Below w.heap.size w w' := by
  have hn := seg_next hy
  have hx := seg_text hy
  obtain ⟨B, hB⟩ : ∃ B, B = y.b := ⟨_, rfl⟩
  obtain ⟨R, hR⟩ : ∃ R, R = begB y := ⟨_, rfl⟩
  rw [← hB] at hn hx hsz ⊢
  rw [← hR] at hn ⊢
  obtain ⟨⟨t, nx, c⟩, hr⟩ : ∃ r, nextR B 0 = r := ⟨_, rfl⟩
  rw [hr] at hn hx
  have HN := Lib.hid hn; have HX := Lib.hid hx; have HR := Lib.hid hr
  clear hn hx hR hB hy hr
  go_enter Tryd.func55, Tryd.ntmps55
  go_wp2_with fail
  refine (next_any B 0 w ht (by omega)).mono ?_
  rintro e w1 ⟨rfl, hb1⟩
  rw [HR.out]; unfold nextV; dsimp only
  have HB1 := Lib.hid hb1; clear hb1
  by_cases hc : c = 0
  · subst hc
    have hn : R = cntB t := by have := HN.out; rw [if_pos rfl] at this; exact this
    have hx : t.size ≤ 65536 := HX.out rfl
    have HN2 := Lib.hid hn; clear hn
    go_wp2_with fail
    refine (count_any t w1 (by omega)).mono ?_
    rintro e w2 ⟨rfl, hb2⟩
    have HB2 := Lib.hid (hb_call HB1.out hb2); clear hb2
    go_wp2
    go_ret2
    exact ⟨by rw [HN2.out]; rfl, HB2.out⟩
  · have hne : (c != 0) = true := by simpa using hc
    have hn : R = (0, false) := by have := HN.out; rw [if_neg hc] at this; exact this
    have HN2 := Lib.hid hn; clear hn hc
    go_wp2
    go_ret2
    exact ⟨by rw [HN2.out]; rfl, HB1.out⟩
/-- A disk whose files are segments. -/
structure DsO (base d c : Nat) (s : DkS) (sg : Int → WSeg) (w : World) : Prop where
  obj : DObj base w d c s
  c6 : c ≤ 1000000
  seg : ∀ k, SegOk (sg k) ∧ datF s.fm k = (sg k).b ∧ (sg k).b.size ≤ 1000000000
  txt : ∀ k, (sg k).T.length ≤ 1000000
  tab : Tab w
  b0 : 0 < base
theorem DsO.turn {base d c : Nat} {s : DkS} {sg : Int → WSeg} {w x : World} (h : DsO base d c s sg w) (hD : DObj base x d c s) (hb : ButD base w x) : DsO base d c s sg x := ⟨hD, h.c6, h.seg, h.txt, tab_butD h.tab hb h.b0, h.b0⟩
theorem DsO.below {base d c : Nat} {s : DkS} {sg : Int → WSeg} {w x : World} (h : DsO base d c s sg w) (hb : Below w.heap.size w x) : DsO base d c s sg x := h.turn (h.obj.call hb) (But.of_below hb)
def notB (sg : Int → WSeg) (n : Int) : Bool := !(begB (sg n)).2
set_option maxRecDepth 100000 in
set_option maxHeartbeats 1600000 in
theorem whole1_any {base d c : Nat} {s : DkS} {sg : Int → WSeg} (Bd : Nat) (n : Int) (w : World) (h : DsO base d c s sg w) (hB : Boxed w Bd 25 (pt d 0)) :
    Calls Tryd.prog 57 #[.int .i64 n, .pointer (some ⟨Bd, 0, none⟩)] w fun e w' => e = .returned (.bool (notB sg n)) ∧ DsO base d c s sg w' ∧ ButD base w w' := by
  have cd := hB.cell
  simp only [pt] at cd
  have H := Lib.hid h; clear h hB
  go_enter Tryd.func57, Tryd.ntmps57
  go_wp2_with fail
  refine (tData w n H.out.obj).mono ?_
  rintro e w1 ⟨rfl, hD1, hb1⟩
  have H1 := Lib.hid (H.out.turn hD1 hb1); have HB1 := Lib.hid hb1
  clear hD1 hb1 cd
  obtain ⟨h2, h3, h4⟩ := H.out.seg n
  rw [h3]
  have HS := Lib.hid h2
  go_wp2_with fail
  refine (beginning_any (sg n) w1 HS.out h4 H1.out.tab).mono ?_
  rintro e w2 ⟨rfl, hb2⟩
  have H2 := Lib.hid (H1.out.below hb2); have HB2 := Lib.hid (butD_tr HB1.out (But.of_below hb2))
  clear hb2 h3 h4 h2
  go_wp2
  go_ret
  exact ⟨rfl, H2.out, HB2.out⟩
set_option maxRecDepth 100000 in
theorem segm1_any (n : Int) (w : World) : Calls Tryd.prog 59 #[.int .i64 n] w fun e w' => e = .returned (.bool true) ∧ w = w' := by
  go_enter Tryd.func59, Tryd.ntmps59
  go_wp2
  go_ret
  exact ⟨rfl, rfl⟩
/-- Those that follow one by one. -/
def rowS (P : Int → Bool) (first : Int) (l : List Int) (n : Int) : List Int := if n = first + (l.length : Int) ∧ (n = first ∨ P n = true) then l ++ [n] else l
def rowF (P : Int → Bool) (first : Int) (ys : List Int) : List Int := ys.foldl (rowS P first) []
theorem rowF_at {P : Int → Bool} {first : Int} {ys : List Int} {i : Nat} {y : Int} (h : ys[i]? = some y) : rowF P first (ys.take (i + 1)) = rowS P first (rowF P first (ys.take i)) y := by
  unfold rowF; rw [List.take_add_one, h, List.foldl_append]; rfl
theorem rowF_le (P : Int → Bool) (first : Int) (ys : List Int) : (rowF P first ys).length ≤ ys.length := by
  suffices h : ∀ (ys l : List Int), (ys.foldl (rowS P first) l).length ≤ l.length + ys.length by have := h ys []; simpa [rowF] using this
  intro ys
  induction ys with
  | nil => intro l; simp
  | cons y r ih =>
    intro l
    have h1 := ih (rowS P first l y)
    have h2 : (rowS P first l y).length ≤ l.length + 1 := by unfold rowS; split <;> simp
    rw [List.foldl_cons, List.length_cons]; omega

set_option maxRecDepth 100000 in
set_option maxHeartbeats 4000000 in
theorem prowT_any {base d c : Nat} {s : DkS} {sg : Int → WSeg} (first : Int) (ys : List Int) (v : Value) (Bf : Nat) (w : World) (h : DsO base d c s sg w) (hf : 1 ≤ first ∧ first ≤ 2000000000) (hlen : ys.length ≤ 1000000) (hrow : w.ownsRow Bf 3 1 v ys.length (ys.flatMap (intE .i64))) :
    Calls Tryd.prog 56 #[v, .int .i64 first, .func (.func 59) #[] #[]] w fun e w' => ∃ u, e = .returned u ∧ w'.ownsRow w.heap.size 3 1 u (rowF (fun _ => true) first ys).length ((rowF (fun _ => true) first ys).flatMap (intE .i64)) ∧ DsO base d c s sg w' ∧ ButD base w w' := by
  obtain ⟨i0, hinf, hz0, hz1, hz2⟩ := info_parts info_intS
  obtain ⟨f1, f2⟩ := hf
  obtain ⟨ao, cap, rfl, -, -⟩ := row_view hrow
  have hlow : ∀ q, (Value.slice ao ys.length cap).ownBlock = some q → q < w.heap.size := fun q hq => (hrow.lt q hq).2
  have H := Lib.hid h; have HROW := Lib.hid hrow; have HLOW := Lib.hid hlow; skip
  clear h hrow hlow
  go_enter Tryd.func56, Tryd.ntmps56
  go_wp2
  go_loopg [7, 12] (ys.length + 1) (fun g s7 s12 wr => ∃ i : Nat, s12 = .int .i64 i ∧ i ≤ ys.length ∧ ys.length + 1 ≤ i + g ∧ Hid (wr.ownsRow w.heap.size 3 1 s7 (rowF (fun _ => true) first (ys.take i)).length ((rowF (fun _ => true) first (ys.take i)).flatMap (intE .i64))) ∧ Hid (wr.ownsRow Bf 3 1 (.slice ao ys.length cap) ys.length (ys.flatMap (intE .i64))) ∧ Hid (DsO base d c s sg wr) ∧ Hid (ButD base w wr))
  case atStart => exact ⟨0, rfl, by omega, by omega, Lib.hid (World.ownsRow_nil _ _ _ _), HROW, H, Lib.hid (But.refl _ _)⟩
  case round =>
    obtain ⟨i, rfl, hi, hg, HU, HF, HD, HB⟩ := hrel
    by_cases hlt : i < ys.length
    · obtain ⟨y, hy⟩ : ∃ y, ys[i]? = some y := ⟨_, List.getElem?_eq_getElem hlt⟩
      obtain ⟨ao', c', e, -, hat⟩ := row_view HF.out
      cases e
      obtain ⟨g2, rfl, -, hg2⟩ := hat i hlt
      rw [flat_ints, List.getElem?_map, hy] at hg2
      replace hg2 : wr.cell? ⟨g2, i, none⟩ = some (.int .i64 y) := hg2
      have hle := rowF_le (fun _ => true) first (ys.take i)
      rw [List.length_take] at hle
      have hst := rowF_at (P := (fun _ => true)) (first := first) hy
      obtain ⟨a7, n7, c7, rfl⟩ := own_slice HU.out
      obtain ⟨L, hL⟩ : ∃ L, L = rowF (fun _ => true) first (ys.take i) := ⟨_, rfl⟩
      rw [← hL] at HU hle hst
      have hn7 : n7 = L.length := by rcases HU.out.2 with ⟨h1, h2⟩ | ⟨_, _, _, h1, _⟩; cases h1; omega; cases h1; rfl
      subst hn7
      have HY := Lib.hid hy; have HLE := Lib.hid hle; have HST := Lib.hid hst
      have hl1 : L.length ≤ i := by omega
      clear hy hat hle hL hst
      by_cases hq : y = first + (L.length : Int)
      · have HQ := Lib.hid hq
        have hb0 : (y == first + (L.length : Int)) = true := by simpa using hq
        have hy2 : y ≤ 2001000000 := by omega
        clear hq
        by_cases hq1 : y = first
        · have hb1 : (y == first) = true := by simpa using hq1
          have hS : rowF (fun _ => true) first (ys.take (i + 1)) = L ++ [y] := by rw [HST.out]; unfold rowS; rw [if_pos ⟨HQ.out, .inl hq1⟩]
          have HS := Lib.hid hS; clear hS hq1
          go_wp2_with (at_builtin; go_loud (refine wpList_append_own _ rfl (.tmp 32) (.tmp 34) 53 rfl w.heap.size 3 i0 (.int .i64 0) 1 8 Tryd.underlying53 hinf hz0 hz1 hz2 rfl (by decide) (.slice a7 L.length c7) L.length (L.flatMap (intE .i64)) rfl (HU.out.alloc _) ⟨wr.heap.size, 0, none⟩ 1 1 [.int .i64 y] rfl rfl (cell_one_new _ _ _) (by simp [Value.oneCell']) (by unfold maxLen; omega) (by omega) (by have := HB.out.size; simp; omega) ?_); intro v' w1 hown' hgrow _)
          have hkeep : ∀ q, q < wr.heap.size → (Value.slice a7 L.length c7).ownBlock ≠ some q → w1.heap[q]? = wr.heap[q]? := fun q hq2 hne => by
            rw [hgrow.block q (by simp; omega) (fun e => hne e.symm)]; exact (World.grownBy_alloc wr _ none).block q hq2 (fun e => nomatch e)
          have HD1 := Lib.hid (HD.out.obj.new (World.grownBy_alloc wr (.cells #[.int .i64 y] 3) none) |>.row (HU.out.alloc _) int_off hgrow)
          have HB1 := Lib.hid ((HB.out.grown (World.grownBy_alloc wr (.cells #[.int .i64 y] 3) none) (fun r e => nomatch e)).grown hgrow (fun r e => own_blockI HU.out _ e))
          have HF1 := Lib.hid (row_same HF.out (by have := hgrow.size; simp at this; omega) (fun q hq2 => hkeep q (HF.out.lt q hq2).2 (fun e => by have h5 := own_blockI HU.out _ e; have h6 := HLOW.out q hq2; omega)))
          have HU1 : Hid (w1.ownsRow w.heap.size 3 1 v' (rowF (fun _ => true) first (ys.take (i + 1))).length ((rowF (fun _ => true) first (ys.take (i + 1))).flatMap (intE .i64))) := Lib.hid (by rw [HS.out, List.length_append, List.flatMap_append]; exact hown')
          have HBX1 := True.intro
          clear hown' hgrow hkeep
          go_roundg (gk - 1)
          case rel => exact ⟨i + 1, by go_num, by omega, by omega, HU1, HF1, Lib.hid ((H.out.turn HD1.out HB1.out)), HB1⟩
          case measure => omega
        · have hb1 : (y == first) = false := by simpa using hq1
          have HQ1 := Lib.hid hq1; clear hq1
          have hS : rowF (fun _ => true) first (ys.take (i + 1)) = L ++ [y] := by rw [HST.out]; unfold rowS; rw [if_pos ⟨HQ.out, .inr rfl⟩]
          have HS := Lib.hid hS; clear hS
          go_wp2_with fail
          refine (segm1_any y wr).mono ?_
          rintro e wq ⟨rfl, rfl⟩
          go_wp2_with (at_builtin; go_loud (refine wpList_append_own _ rfl (.tmp 32) (.tmp 34) 53 rfl w.heap.size 3 i0 (.int .i64 0) 1 8 Tryd.underlying53 hinf hz0 hz1 hz2 rfl (by decide) (.slice a7 L.length c7) L.length (L.flatMap (intE .i64)) rfl (HU.out.alloc _) ⟨wr.heap.size, 0, none⟩ 1 1 [.int .i64 y] rfl rfl (cell_one_new _ _ _) (by simp [Value.oneCell']) (by unfold maxLen; omega) (by omega) (by have := HB.out.size; simp; omega) ?_); intro v' w1 hown' hgrow _)
          have hkeep : ∀ q, q < wr.heap.size → (Value.slice a7 L.length c7).ownBlock ≠ some q → w1.heap[q]? = wr.heap[q]? := fun q hq2 hne => by
            rw [hgrow.block q (by simp; omega) (fun e => hne e.symm)]; exact (World.grownBy_alloc wr _ none).block q hq2 (fun e => nomatch e)
          have HD1 := Lib.hid (HD.out.obj.new (World.grownBy_alloc wr (.cells #[.int .i64 y] 3) none) |>.row (HU.out.alloc _) int_off hgrow)
          have HB1 := Lib.hid ((HB.out.grown (World.grownBy_alloc wr (.cells #[.int .i64 y] 3) none) (fun r e => nomatch e)).grown hgrow (fun r e => own_blockI HU.out _ e))
          have HF1 := Lib.hid (row_same HF.out (by have := hgrow.size; simp at this; omega) (fun q hq2 => hkeep q (HF.out.lt q hq2).2 (fun e => by have h5 := own_blockI HU.out _ e; have h6 := HLOW.out q hq2; omega)))
          have HU1 : Hid (w1.ownsRow w.heap.size 3 1 v' (rowF (fun _ => true) first (ys.take (i + 1))).length ((rowF (fun _ => true) first (ys.take (i + 1))).flatMap (intE .i64))) := Lib.hid (by rw [HS.out, List.length_append, List.flatMap_append]; exact hown')
          have HBX1 := True.intro
          clear hown' hgrow hkeep
          go_roundg (gk - 1)
          case rel => exact ⟨i + 1, by go_num, by omega, by omega, HU1, HF1, Lib.hid ((H.out.turn HD1.out HB1.out)), HB1⟩
          case measure => omega
      · have HQ := Lib.hid hq
        have hb0 : (y == first + (L.length : Int)) = false := by simpa using hq
        have hS : rowF (fun _ => true) first (ys.take (i + 1)) = L := by rw [HST.out]; unfold rowS; rw [if_neg (fun hh => HQ.out hh.1)]
        have HS := Lib.hid hS; clear hS hq
        go_wp2
        go_roundg (gk - 1)
        case rel => exact ⟨i + 1, by go_num, by omega, by omega, Lib.hid (by rw [HS.out]; exact HU.out), HF, HD, HB⟩
        case measure => omega
    · have hq : i = ys.length := by omega
      subst hq
      rw [List.take_length] at HU
      go_wp2
      go_ret
      exact ⟨_, rfl, HU.out, HD.out, HB.out⟩

set_option maxRecDepth 100000 in
set_option maxHeartbeats 4000000 in
theorem prowW_any {base d c : Nat} {s : DkS} {sg : Int → WSeg} (first : Int) (ys : List Int) (v : Value) (Bf : Nat) (Bd : Nat) (w : World) (h : DsO base d c s sg w) (hf : 1 ≤ first ∧ first ≤ 2000000000) (hlen : ys.length ≤ 1000000) (hrow : w.ownsRow Bf 3 1 v ys.length (ys.flatMap (intE .i64))) (hB : Boxed w Bd 25 (pt d 0)) :
    Calls Tryd.prog 56 #[v, .int .i64 first, .func (.func 57) #[] #[.pointer (some ⟨Bd, 0, none⟩)]] w fun e w' => ∃ u, e = .returned u ∧ w'.ownsRow w.heap.size 3 1 u (rowF (notB sg) first ys).length ((rowF (notB sg) first ys).flatMap (intE .i64)) ∧ DsO base d c s sg w' ∧ ButD base w w' := by
  obtain ⟨i0, hinf, hz0, hz1, hz2⟩ := info_parts info_intS
  obtain ⟨f1, f2⟩ := hf
  obtain ⟨ao, cap, rfl, -, -⟩ := row_view hrow
  have hlow : ∀ q, (Value.slice ao ys.length cap).ownBlock = some q → q < w.heap.size := fun q hq => (hrow.lt q hq).2
  have H := Lib.hid h; have HROW := Lib.hid hrow; have HLOW := Lib.hid hlow; have HBX0 := Lib.hid hB
  clear h hrow hlow hB
  go_enter Tryd.func56, Tryd.ntmps56
  go_wp2
  go_loopg [7, 12] (ys.length + 1) (fun g s7 s12 wr => ∃ i : Nat, s12 = .int .i64 i ∧ i ≤ ys.length ∧ ys.length + 1 ≤ i + g ∧ Hid (wr.ownsRow w.heap.size 3 1 s7 (rowF (notB sg) first (ys.take i)).length ((rowF (notB sg) first (ys.take i)).flatMap (intE .i64))) ∧ Hid (wr.ownsRow Bf 3 1 (.slice ao ys.length cap) ys.length (ys.flatMap (intE .i64))) ∧ Hid (DsO base d c s sg wr) ∧ Hid (ButD base w wr) ∧ Hid (Boxed wr Bd 25 (pt d 0)))
  case atStart => exact ⟨0, rfl, by omega, by omega, Lib.hid (World.ownsRow_nil _ _ _ _), HROW, H, Lib.hid (But.refl _ _), HBX0⟩
  case round =>
    obtain ⟨i, rfl, hi, hg, HU, HF, HD, HB, HBX⟩ := hrel
    by_cases hlt : i < ys.length
    · obtain ⟨y, hy⟩ : ∃ y, ys[i]? = some y := ⟨_, List.getElem?_eq_getElem hlt⟩
      obtain ⟨ao', c', e, -, hat⟩ := row_view HF.out
      cases e
      obtain ⟨g2, rfl, -, hg2⟩ := hat i hlt
      rw [flat_ints, List.getElem?_map, hy] at hg2
      replace hg2 : wr.cell? ⟨g2, i, none⟩ = some (.int .i64 y) := hg2
      have hle := rowF_le (notB sg) first (ys.take i)
      rw [List.length_take] at hle
      have hst := rowF_at (P := (notB sg)) (first := first) hy
      obtain ⟨a7, n7, c7, rfl⟩ := own_slice HU.out
      obtain ⟨L, hL⟩ : ∃ L, L = rowF (notB sg) first (ys.take i) := ⟨_, rfl⟩
      rw [← hL] at HU hle hst
      have hn7 : n7 = L.length := by rcases HU.out.2 with ⟨h1, h2⟩ | ⟨_, _, _, h1, _⟩; cases h1; omega; cases h1; rfl
      subst hn7
      have HY := Lib.hid hy; have HLE := Lib.hid hle; have HST := Lib.hid hst
      have hl1 : L.length ≤ i := by omega
      clear hy hat hle hL hst
      by_cases hq : y = first + (L.length : Int)
      · have HQ := Lib.hid hq
        have hb0 : (y == first + (L.length : Int)) = true := by simpa using hq
        have hy2 : y ≤ 2001000000 := by omega
        clear hq
        by_cases hq1 : y = first
        · have hb1 : (y == first) = true := by simpa using hq1
          have hS : rowF (notB sg) first (ys.take (i + 1)) = L ++ [y] := by rw [HST.out]; unfold rowS; rw [if_pos ⟨HQ.out, .inl hq1⟩]
          have HS := Lib.hid hS; clear hS hq1
          go_wp2_with (at_builtin; go_loud (refine wpList_append_own _ rfl (.tmp 32) (.tmp 34) 53 rfl w.heap.size 3 i0 (.int .i64 0) 1 8 Tryd.underlying53 hinf hz0 hz1 hz2 rfl (by decide) (.slice a7 L.length c7) L.length (L.flatMap (intE .i64)) rfl (HU.out.alloc _) ⟨wr.heap.size, 0, none⟩ 1 1 [.int .i64 y] rfl rfl (cell_one_new _ _ _) (by simp [Value.oneCell']) (by unfold maxLen; omega) (by omega) (by have := HB.out.size; simp; omega) ?_); intro v' w1 hown' hgrow _)
          have hkeep : ∀ q, q < wr.heap.size → (Value.slice a7 L.length c7).ownBlock ≠ some q → w1.heap[q]? = wr.heap[q]? := fun q hq2 hne => by
            rw [hgrow.block q (by simp; omega) (fun e => hne e.symm)]; exact (World.grownBy_alloc wr _ none).block q hq2 (fun e => nomatch e)
          have HD1 := Lib.hid (HD.out.obj.new (World.grownBy_alloc wr (.cells #[.int .i64 y] 3) none) |>.row (HU.out.alloc _) int_off hgrow)
          have HB1 := Lib.hid ((HB.out.grown (World.grownBy_alloc wr (.cells #[.int .i64 y] 3) none) (fun r e => nomatch e)).grown hgrow (fun r e => own_blockI HU.out _ e))
          have HF1 := Lib.hid (row_same HF.out (by have := hgrow.size; simp at this; omega) (fun q hq2 => hkeep q (HF.out.lt q hq2).2 (fun e => by have h5 := own_blockI HU.out _ e; have h6 := HLOW.out q hq2; omega)))
          have HU1 : Hid (w1.ownsRow w.heap.size 3 1 v' (rowF (notB sg) first (ys.take (i + 1))).length ((rowF (notB sg) first (ys.take (i + 1))).flatMap (intE .i64))) := Lib.hid (by rw [HS.out, List.length_append, List.flatMap_append]; exact hown')
          have HBX1 : Hid (Boxed w1 Bd 25 (pt d 0)) := Lib.hid (by have h5 := HBX.out; have h6 := h5.lt; have h7 := own_neT HU.out (show Blk _ Bd _ _ from h5) (by decide); unfold Boxed at h5 ⊢; rw [hkeep Bd h6 h7]; exact h5)
          clear hown' hgrow hkeep
          go_roundg (gk - 1)
          case rel => exact ⟨i + 1, by go_num, by omega, by omega, HU1, HF1, Lib.hid ((H.out.turn HD1.out HB1.out)), HB1, HBX1⟩
          case measure => omega
        · have hb1 : (y == first) = false := by simpa using hq1
          have HQ1 := Lib.hid hq1; clear hq1
          go_wp2_with fail
          refine (whole1_any Bd y wr HD.out HBX.out).mono ?_
          rintro e wq ⟨rfl, hDq, hbq⟩
          have HU := Lib.hid (rowD HU.out int_off hbq); have HF := Lib.hid (rowD HF.out int_off hbq); have HBX := Lib.hid (boxD HBX.out (by decide) hbq); have HB := Lib.hid (butD_tr HB.out hbq); have HD := Lib.hid hDq
          clear hDq hbq
          by_cases hP : notB sg y = true
          · rw [hP]
            have hS : rowF (notB sg) first (ys.take (i + 1)) = L ++ [y] := by rw [HST.out]; unfold rowS; rw [if_pos ⟨HQ.out, .inr hP⟩]
            have HS := Lib.hid hS; clear hS hP
            go_wp2_with (at_builtin; go_loud (refine wpList_append_own _ rfl (.tmp 32) (.tmp 34) 53 rfl w.heap.size 3 i0 (.int .i64 0) 1 8 Tryd.underlying53 hinf hz0 hz1 hz2 rfl (by decide) (.slice a7 L.length c7) L.length (L.flatMap (intE .i64)) rfl (HU.out.alloc _) ⟨wq.heap.size, 0, none⟩ 1 1 [.int .i64 y] rfl rfl (cell_one_new _ _ _) (by simp [Value.oneCell']) (by unfold maxLen; omega) (by omega) (by have := HB.out.size; simp; omega) ?_); intro v' w1 hown' hgrow _)
            have hkeep : ∀ q, q < wq.heap.size → (Value.slice a7 L.length c7).ownBlock ≠ some q → w1.heap[q]? = wq.heap[q]? := fun q hq2 hne => by
              rw [hgrow.block q (by simp; omega) (fun e => hne e.symm)]; exact (World.grownBy_alloc wq _ none).block q hq2 (fun e => nomatch e)
            have HD1 := Lib.hid (HD.out.obj.new (World.grownBy_alloc wq (.cells #[.int .i64 y] 3) none) |>.row (HU.out.alloc _) int_off hgrow)
            have HB1 := Lib.hid ((HB.out.grown (World.grownBy_alloc wq (.cells #[.int .i64 y] 3) none) (fun r e => nomatch e)).grown hgrow (fun r e => own_blockI HU.out _ e))
            have HF1 := Lib.hid (row_same HF.out (by have := hgrow.size; simp at this; omega) (fun q hq2 => hkeep q (HF.out.lt q hq2).2 (fun e => by have h5 := own_blockI HU.out _ e; have h6 := HLOW.out q hq2; omega)))
            have HU1 : Hid (w1.ownsRow w.heap.size 3 1 v' (rowF (notB sg) first (ys.take (i + 1))).length ((rowF (notB sg) first (ys.take (i + 1))).flatMap (intE .i64))) := Lib.hid (by rw [HS.out, List.length_append, List.flatMap_append]; exact hown')
            have HBX1 : Hid (Boxed w1 Bd 25 (pt d 0)) := Lib.hid (by have h5 := HBX.out; have h6 := h5.lt; have h7 := own_neT HU.out (show Blk _ Bd _ _ from h5) (by decide); unfold Boxed at h5 ⊢; rw [hkeep Bd h6 h7]; exact h5)
            clear hown' hgrow hkeep
            go_roundg (gk - 1)
            case rel => exact ⟨i + 1, by go_num, by omega, by omega, HU1, HF1, Lib.hid ((H.out.turn HD1.out HB1.out)), HB1, HBX1⟩
            case measure => omega
          · have hP2 : notB sg y = false := by simpa using hP
            rw [hP2]
            have hS : rowF (notB sg) first (ys.take (i + 1)) = L := by rw [HST.out]; unfold rowS; rw [if_neg (fun hh => by rcases hh.2 with h | h; exact HQ1.out h; exact hP h)]
            have HS := Lib.hid hS; clear hS hP hP2
            go_wp2
            go_roundg (gk - 1)
            case rel => exact ⟨i + 1, by go_num, by omega, by omega, Lib.hid (by rw [HS.out]; exact HU.out), HF, HD, HB, HBX⟩
            case measure => omega
      · have HQ := Lib.hid hq
        have hb0 : (y == first + (L.length : Int)) = false := by simpa using hq
        have hS : rowF (notB sg) first (ys.take (i + 1)) = L := by rw [HST.out]; unfold rowS; rw [if_neg (fun hh => HQ.out hh.1)]
        have HS := Lib.hid hS; clear hS hq
        go_wp2
        go_roundg (gk - 1)
        case rel => exact ⟨i + 1, by go_num, by omega, by omega, Lib.hid (by rw [HS.out]; exact HU.out), HF, HD, HB, HBX⟩
        case measure => omega
    · have hq : i = ys.length := by omega
      subst hq
      rw [List.take_length] at HU
      go_wp2
      go_ret
      exact ⟨_, rfl, HU.out, HD.out, HB.out⟩
end Go.Proofs.YtfiplhnplmadmaaDoor

/- Package point: whole, segments. Conditions: files are segments. -/
namespace Go.Proofs.YtfiplhnplmadmaaDoor
open Go.RowKit Go.PlainAid Go.Shelf
set_option linter.unusedVariables false

def hasF (sg : Int → WSeg) (l : List Int) : Nat := l.foldl (fun n k => n + (ownB (sg k).T).length) 0
theorem hasF_at {sg : Int → WSeg} {l : List Int} {i : Nat} {y : Int} (h : l[i]? = some y) : hasF sg (l.take (i + 1)) = hasF sg (l.take i) + (ownB (sg y).T).length := by
  unfold hasF; rw [List.take_add_one, h, List.foldl_append]; rfl
def wholeF (sg : Int → WSeg) (first : Int) (ys : List Int) : List Int :=
  if (begB (sg first)).2 = true then (if ((hasF sg (rowF (notB sg) first ys) : Nat) : Int) < (begB (sg first)).1 then [] else rowF (notB sg) first ys) else []
theorem ownB_le (l : List ByteArray) : (ownB l).length ≤ l.length := List.length_filterMap_le _ _
theorem begB_nn {y : WSeg} (h : (begB y).2 = true) : 0 ≤ (begB y).1 ∧ (begB y).1 < 18446744073709551616 := by
  unfold begB at h ⊢
  cases hT : y.T with
  | nil => rw [hT] at h; cases h
  | cons x r =>
    rw [hT] at h
    show 0 ≤ (cntB x).1 ∧ (cntB x).1 < _
    have h : (cntB x).2 = true := h
    unfold cntB at h ⊢
    by_cases hp : isP x = true
    · rw [if_pos hp] at h ⊢
      have h : (decide ((getR x 1).2.2 = 0) && decide ((getR x 1).2.1 = (x.size : Int))) = true := h
      rw [Bool.and_eq_true, decide_eq_true_iff] at h
      have := getR_go x 1 h.1
      exact ⟨this.2.2.1, this.2.2.2⟩
    · rw [if_neg hp] at h; cases h
set_option maxRecDepth 100000 in
set_option maxHeartbeats 4000000 in
theorem whole_any {base d c : Nat} {s : DkS} {sg : Int → WSeg} (first : Int) (ys : List Int) (v : Value) (Bf : Nat) (w : World) (h : DsO base d c s sg w) (hf : 1 ≤ first ∧ first ≤ 2000000000) (hlen : ys.length ≤ 1000000) (hrow : w.ownsRow Bf 3 1 v ys.length (ys.flatMap (intE .i64))) :
    Calls Tryd.prog 40 #[pt d 0, v, .int .i64 first] w fun e w' => ∃ u, e = .returned u ∧ w'.ownsRow w.heap.size 3 1 u (wholeF sg first ys).length ((wholeF sg first ys).flatMap (intE .i64)) ∧ DsO base d c s sg w' ∧ ButD base w w' := by
  obtain ⟨s1, s2, s3⟩ := h.seg first
  have hg0 := World.grownBy_alloc w (.cells #[pt d 0] 25) none
  obtain ⟨w0, hw0⟩ : ∃ w0, w0 = w.alloc (.cells #[pt d 0] 25) := ⟨_, rfl⟩
  have hBx : Boxed w0 w.heap.size 25 (pt d 0) := by rw [hw0]; exact Boxed.new w _ _
  rw [← hw0] at hg0
  have hB0 : ButD base w w0 := (But.refl _ w).grown hg0 (fun r e => nomatch e)
  have H0 := Lib.hid (h.turn (h.obj.new hg0) hB0)
  have HROW := Lib.hid (row_kept_new hrow hg0)
  have HB0 := Lib.hid hB0; have HW0 := Lib.hid hw0; have HBX := Lib.hid hBx
  have cd := hBx.cell
  have hz0 := hg0.size
  clear hrow h hB0 hBx hg0
  simp only [pt] at cd
  go_enter Tryd.func40, Tryd.ntmps40
  simp only [pt]
  go_wp2_with fail
  have e0 : w.alloc (.cells #[.pointer (some ⟨d, 0, none⟩)] 25) = w0 := HW0.out.symm
  rw [e0]
  refine (tData w0 first H0.out.obj).mono ?_
  rintro e w1 ⟨rfl, hD1, hb1⟩
  rw [s2]
  have H1 := Lib.hid (H0.out.turn hD1 hb1); have HB1 := Lib.hid (butD_tr HB0.out hb1); have HR1 := Lib.hid (rowD HROW.out int_off hb1); have HX1 := Lib.hid (boxD HBX.out (by decide) hb1)
  have hz1 := hb1.size
  have HS1 := Lib.hid s1; have HF := Lib.hid hf
  clear hD1 hb1 s1 s2 e0
  go_wp2_with fail
  refine (beginning_any (sg first) w1 HS1.out s3 H1.out.tab).mono ?_
  rintro e w2 ⟨rfl, hb2⟩
  have H2 := Lib.hid (H1.out.below hb2); have HB2 := Lib.hid (butD_tr HB1.out (But.of_below hb2)); have HR2 := Lib.hid (row_below HR1.out hb2); have HX2 : Hid (Boxed w2 w.heap.size 25 (pt d 0)) := Lib.hid (boxed_non HX1.out (below_grown hb2) (fun r e => nomatch e))
  have hz2 := hb2.size
  have hbg := begB_nn (y := sg first)
  obtain ⟨⟨nB, bB⟩, hbB⟩ : ∃ r, begB (sg first) = r := ⟨_, rfl⟩
  have hwf : wholeF sg first ys = if bB = true then (if ((hasF sg (rowF (notB sg) first ys) : Nat) : Int) < nB then [] else rowF (notB sg) first ys) else [] := by unfold wholeF; rw [hbB]
  rw [hbB] at hbg ⊢
  have HBG := Lib.hid hbg; have HWF := Lib.hid hwf
  clear hb2 hbg hwf hbB cd s3
  dsimp only
  cases bB with
  | false =>
    go_wp2
    go_ret
    exact ⟨_, rfl, (by rw [show wholeF sg first ys = [] from HWF.out]; exact World.ownsRow_nil _ _ _ _), H2.out, HB2.out⟩
  | true =>
    obtain ⟨hn0, hn1⟩ := HBG.out rfl
    go_wp2_with fail
    refine (prowW_any first ys v Bf w.heap.size w2 H2.out HF.out hlen HR2.out HX2.out).mono ?_
    rintro e w3 ⟨u, rfl, hu, hD3, hb3⟩
    have hRl := rowF_le (notB sg) first ys
    have hwf : wholeF sg first ys = if ((hasF sg (rowF (notB sg) first ys) : Nat) : Int) < nB then [] else rowF (notB sg) first ys := HWF.out
    obtain ⟨R, hR⟩ : ∃ R, R = rowF (notB sg) first ys := ⟨_, rfl⟩
    rw [← hR] at hu hRl hwf
    obtain ⟨au, cu, rfl, -, -⟩ := row_view hu
    have H3 := Lib.hid hD3; have HB3 := Lib.hid (butD_tr HB2.out hb3); have HU3 := Lib.hid (row_lows hu (by omega) : w3.ownsRow w.heap.size 3 1 (.slice au R.length cu) R.length (R.flatMap (intE .i64))); have HX3 := Lib.hid (boxD HX2.out (by decide) hb3)
    have HW2 := Lib.hid hwf
    have hRz : R.length ≤ 1000000 := by omega
    clear hu hD3 hb3 hwf hR hRl HWF
    go_wp2
    go_loopg [10, 31] (R.length + 1) (fun g s10 s31 wr => ∃ i : Nat, s31 = .int .i64 i ∧ s10 = .int .i64 ((hasF sg (R.take i) : Nat) : Int) ∧ i ≤ R.length ∧ R.length + 1 ≤ i + g ∧ hasF sg (R.take i) ≤ i * 1000000 ∧ Hid (wr.ownsRow w.heap.size 3 1 (.slice au R.length cu) R.length (R.flatMap (intE .i64))) ∧ Hid (DsO base d c s sg wr) ∧ Hid (ButD base w wr) ∧ Hid (Boxed wr w.heap.size 25 (pt d 0)))
    case atStart => exact ⟨0, rfl, rfl, by omega, by omega, Nat.le_refl _, HU3, H3, HB3, HX3⟩
    case round =>
      obtain ⟨i, rfl, rfl, hi, hg, hh, HU, HD, HB, HX⟩ := hrel
      by_cases hlt : i < R.length
      · obtain ⟨y, hy⟩ : ∃ y, R[i]? = some y := ⟨_, List.getElem?_eq_getElem hlt⟩
        obtain ⟨au', cu', e, -, hat⟩ := row_view HU.out
        cases e
        obtain ⟨g2, rfl, -, hg2⟩ := hat i hlt
        rw [flat_ints, List.getElem?_map, hy] at hg2
        replace hg2 : wr.cell? ⟨g2, i, none⟩ = some (.int .i64 y) := hg2
        have cx := HX.out.cell
        simp only [pt] at cx
        obtain ⟨q1, q2, q3⟩ := HD.out.seg y
        have q4 := HD.out.txt y
        have hha := hasF_at (sg := sg) hy
        have hol := ownB_le (sg y).T
        obtain ⟨hN, hhN⟩ : ∃ n, n = hasF sg (R.take i) := ⟨_, rfl⟩
        rw [← hhN] at hh hha ⊢
        have HHA := Lib.hid hha; have HQ1 := Lib.hid q1; have HQ2 := Lib.hid q2; have HHN := Lib.hid hhN
        clear hy hat hha q1 q2 hhN
        go_wp2_with fail
        refine (tData wr y HD.out.obj).mono ?_
        rintro e w4 ⟨rfl, hD4, hb4⟩
        rw [HQ2.out]
        have HD4 := Lib.hid (HD.out.turn hD4 hb4); have HB4 := Lib.hid (butD_tr HB.out hb4); have HU4 := Lib.hid (rowD HU.out int_off hb4); have HX4 := Lib.hid (boxD HX.out (by decide) hb4)
        clear hD4 hb4 cx hg2
        go_wp2_with fail
        refine (all_any (sg y).b w4 HD4.out.tab (by omega)).mono ?_
        rintro e w5 ⟨vt, l, b, c5, rfl, hAll, hrow5, hb5⟩
        have hS := seg_all HQ1.out
        obtain ⟨hl5, -, -⟩ := run_det hAll.1 hAll.2 hS.1 hS.2
        subst hl5
        have HD5 := Lib.hid (HD4.out.below hb5); have HB5 := Lib.hid (butD_tr HB4.out (But.of_below hb5)); have HU5 := Lib.hid (row_below HU4.out hb5); have HX5 : Hid (Boxed w5 w.heap.size 25 (pt d 0)) := Lib.hid (boxed_non HX4.out (below_grown hb5) (fun r e => nomatch e))
        have HR5 := Lib.hid hrow5
        clear hAll hS hb5 hrow5
        go_wp2_with fail
        refine (own_any vt (sg y).T w5 (SliceOf.own HR5.out (fun _ _ => rfl)) q4).mono ?_
        rintro e w6 ⟨u6, rfl, hrow6, hb6⟩
        obtain ⟨a6, c6, rfl, -, -⟩ := row_view hrow6
        have HD6 := Lib.hid (HD5.out.below hb6); have HB6 := Lib.hid (butD_tr HB5.out (But.of_below hb6)); have HU6 := Lib.hid (row_below HU5.out hb6); have HX6 : Hid (Boxed w6 w.heap.size 25 (pt d 0)) := Lib.hid (boxed_non HX5.out (below_grown hb6) (fun r e => nomatch e))
        clear hb6 hrow6
        obtain ⟨m, hm⟩ : ∃ m, m = (ownB (sg y).T).length := ⟨_, rfl⟩
        rw [← hm] at hol ⊢
        have HM := Lib.hid hm; clear hm
        go_wp2
        go_roundg (gk - 1)
        case rel => exact ⟨i + 1, by go_num, by (have h1 := HHA.out; rw [← HM.out] at h1; rw [h1]; go_num), by omega, by omega, by (have h1 := HHA.out; rw [← HM.out] at h1; omega), HU6, HD6, HB6, HX6⟩
        case measure => omega
      · have hq : i = R.length := by omega
        subst hq
        rw [List.take_length] at hh ⊢
        obtain ⟨hN, hhN⟩ : ∃ n, n = hasF sg R := ⟨_, rfl⟩
        rw [← hhN] at hh HW2 ⊢
        have HHN := Lib.hid hhN; clear hhN
        by_cases hc : (hN : Int) < nB
        · have hd : decide ((hN : Int) < nB) = true := decide_eq_true hc
          have hw2 : wholeF sg first ys = [] := by rw [HW2.out, if_pos hc]
          have HW3 := Lib.hid hw2; clear hw2 hc
          go_wp2
          go_ret
          exact ⟨_, rfl, (by rw [HW3.out]; exact World.ownsRow_nil _ _ _ _), HD.out, HB.out⟩
        · have hd : decide ((hN : Int) < nB) = false := decide_eq_false hc
          have hw2 : wholeF sg first ys = R := by rw [HW2.out, if_neg hc]
          have HW3 := Lib.hid hw2; clear hw2 hc
          go_wp2
          go_ret
          exact ⟨_, rfl, (by rw [HW3.out]; exact HU.out), HD.out, HB.out⟩
end Go.Proofs.YtfiplhnplmadmaaDoor

/- Package point: segments, dropUnless. Conditions: nothing is pending where files are dropped. -/
namespace Go.Proofs.YtfiplhnplmadmaaDoor
open Go.RowKit Go.PlainAid Go.Shelf
set_option linter.unusedVariables false

theorem rowT_low {first : Int} : ∀ {l : List Int}, (∀ k ∈ l, k < first) → l.foldl (rowS (fun _ => true) first) [] = []
  | [], _ => rfl
  | k :: r, h => by
    have hk := h k (List.mem_cons_self ..)
    rw [List.foldl_cons, show rowS (fun _ => true) first [] k = [] from by unfold rowS; rw [if_neg]; rintro ⟨h1, -⟩; simp at h1; omega]
    exact rowT_low (fun z hz => h z (List.mem_cons_of_mem _ hz))
theorem rowT_seg (first : Int) (n : Nat) : (segN first n).foldl (rowS (fun _ => true) first) [] = segN first n := by
  induction n with
  | zero => rfl
  | succ n ih =>
    rw [segN_snoc, List.foldl_append, ih, List.foldl_cons, List.foldl_nil]
    show rowS _ first (segN first n) (first + (n : Int)) = _
    unfold rowS; rw [if_pos ⟨by rw [segN_len], .inr rfl⟩]
/-- Of a log that lies behind all else. -/
theorem rowT_all {fm : Int → Option FileM} {first : Int} {A : List WSeg} (h : Logs fm first A) {ys : List Int} (hK : KeysF fm ys) : rowF (fun _ => true) first ys = segN first A.length := by
  have h1 : ys.filter (fun z => decide (first ≤ z)) = segN first A.length := h.fil ⟨ys, hK, Nat.le_refl _, rfl⟩
  have h2 : ys = ys.filter (fun z => decide (z < first)) ++ ys.filter (fun z => decide (first ≤ z)) := by
    have hs := hK.1
    clear h h1 hK
    induction ys with
    | nil => rfl
    | cons y r ih =>
      obtain ⟨a1, a2⟩ := List.pairwise_cons.1 hs
      by_cases hy : y < first
      · rw [List.filter_cons_of_pos (by simpa using hy), List.filter_cons_of_neg (by simpa using hy), List.cons_append, ← ih a2]
      · rw [List.filter_cons_of_neg (by simpa using hy), List.filter_cons_of_pos (by simp; omega)]
        have e1 : r.filter (fun z => decide (z < first)) = [] := List.filter_eq_nil_iff.2 (fun z hz => by have := a1 z hz; simp; omega)
        have e2 : r.filter (fun z => decide (first ≤ z)) = r := List.filter_eq_self.2 (fun z hz => by have := a1 z hz; simp; omega)
        rw [e1, e2]; rfl
  unfold rowF
  rw [h2, List.foldl_append, rowT_low (fun k hk => by have := (List.mem_filter.1 hk).2; simpa using this), h1, rowT_seg]
set_option maxRecDepth 100000 in
set_option maxHeartbeats 4000000 in
theorem psegs_any {base d c : Nat} {s : DkS} {sg : Int → WSeg} (p N : Nat) (first : Int) (A : List WSeg) (w : World) (h : DsO base d c s sg w) (hL : Logs s.fm first A) (hf : 1 ≤ first ∧ first ≤ 2000000000) (hP : Blk w p 61 #[.bool true, pt d 0, .int .i64 first, pt N 0]) :
    Calls Tryd.prog 43 #[pt p 1] w fun e w' => ∃ (u : Value), e = .returned u ∧ w'.ownsRow 0 3 1 u A.length ((segN first A.length).flatMap (intE .i64)) ∧ DsO base d c s sg w' ∧ ButD base w w' := by
  have c1 : w.cell? ⟨p, 1, none⟩ = some (.pointer (some ⟨d, 0, none⟩)) := hP.cell (k := 1) rfl
  have c2 : w.cell? ⟨p, 2, none⟩ = some (.int .i64 first) := hP.cell (k := 2) rfl
  have H := Lib.hid h; have HL := Lib.hid hL; have HF := Lib.hid hf; have HP := Lib.hid hP
  clear h hL hf hP
  go_enter Tryd.func43, Tryd.ntmps43
  simp only [pt]
  go_wp2_with fail
  go_region_law (first | (go_simp; go_at_call 26; refine (tFiles _ (H.out.obj.new (drew_grown _)) H.out.c6).mono ?_; rintro e w2 ⟨ys, u2, rfl, hr2, hK2, hl2, hD2, hb2⟩; have HP2 := (HP.out.below (grown_below (drew_grown _))).grW (by decide) hb2; have k1 : w2.cell? ⟨p, 1, none⟩ = some (.pointer (some ⟨d, 0, none⟩)) := HP2.cell (k := 1) rfl; have k2 : w2.cell? ⟨p, 2, none⟩ = some (.int .i64 first) := HP2.cell (k := 2) rfl; have HR2 := Lib.hid hr2; have HK2 := Lib.hid hK2; have HL2 := Lib.hid hl2; have HB2 := Lib.hid (butD_tr (But.of_below (grown_below (drew_grown w))) hb2); have HD2 := Lib.hid (H.out.turn hD2 HB2.out); clear hr2 hK2 hl2 hD2 hb2 HP2) | (go_simp; go_at_call 56; refine (prowT_any first ys u2 _ w2 HD2.out HF.out (Nat.le_trans HL2.out H.out.c6) HR2.out).mono ?_; rintro e w3 ⟨u3, rfl, hr3, hD3, hb3⟩; have HR3 := Lib.hid hr3; have HD3 := Lib.hid hD3; have HB3 := Lib.hid (butD_tr HB2.out hb3); clear hr3 hD3 hb3))
  all_goals (have hrt := rowT_all HL.out HK2.out; have HRT := Lib.hid hrt; clear hrt; go_wp2; go_ret; exact ⟨_, rfl, (by have h3 := HR3.out; rw [HRT.out, segN_len] at h3; exact row_lows h3 (Nat.zero_le _)), HD3.out, HB3.out⟩)
def dropF (Q : Int → Bool) (s : DkS) : DkS := ⟨fun k => if Q k = true then s.fm k else none, s.ps, s.ser, s.boots⟩
def dropG (Q : Int → Bool) (s : DkS) (k : Int) : DkS := if Q k = true then s else dpS s k
theorem dropG_run (Q : Int → Bool) : ∀ (ys : List Int) (s : DkS), (ys.foldl (dropG Q) s).fm = (fun k => if k ∈ ys ∧ Q k = false then none else s.fm k) ∧ (ys.foldl (dropG Q) s).ps = s.ps ∧ (ys.foldl (dropG Q) s).ser = s.ser ∧ (ys.foldl (dropG Q) s).boots = s.boots
  | [], s => ⟨by funext k; simp, rfl, rfl, rfl⟩
  | y :: r, s => by
    obtain ⟨h1, h2, h3, h4⟩ := dropG_run Q r (dropG Q s y)
    have hp : (dropG Q s y).ps = s.ps ∧ (dropG Q s y).ser = s.ser ∧ (dropG Q s y).boots = s.boots := by unfold dropG; split <;> exact ⟨rfl, rfl, rfl⟩
    refine ⟨?_, h2.trans hp.1, h3.trans hp.2.1, h4.trans hp.2.2⟩
    rw [List.foldl_cons, h1]
    funext k
    unfold dropG dpS
    by_cases hq : Q y = true
    · rw [if_pos hq]
      by_cases hk : k ∈ r ∧ Q k = false
      · rw [if_pos hk, if_pos ⟨List.mem_cons_of_mem _ hk.1, hk.2⟩]
      · rw [if_neg hk, if_neg]
        rintro ⟨m1, m2⟩
        rcases List.mem_cons.1 m1 with e | m1
        · subst e; rw [hq] at m2; cases m2
        · exact hk ⟨m1, m2⟩
    · rw [if_neg hq]
      have hq2 : Q y = false := by simpa using hq
      by_cases hk : k ∈ r ∧ Q k = false
      · rw [if_pos hk, if_pos ⟨List.mem_cons_of_mem _ hk.1, hk.2⟩]
      · rw [if_neg hk]
        show (if k = y then none else s.fm k) = _
        by_cases e : k = y
        · subst e; rw [if_pos rfl, if_pos ⟨List.mem_cons_self .., hq2⟩]
        · rw [if_neg e, if_neg]
          rintro ⟨m1, m2⟩
          rcases List.mem_cons.1 m1 with e1 | m1
          · exact e e1
          · exact hk ⟨m1, m2⟩
theorem dropG_all {Q : Int → Bool} {s : DkS} {ys : List Int} (hK : KeysF s.fm ys) : ys.foldl (dropG Q) s = dropF Q s := by
  obtain ⟨h1, h2, h3, h4⟩ := dropG_run Q ys s
  cases hr : ys.foldl (dropG Q) s with
  | mk fm ps se bo =>
    rw [hr] at h1 h2 h3 h4
    dsimp only at h1 h2 h3 h4
    unfold dropF
    subst h1 h2 h3 h4
    congr 1
    funext k
    by_cases hq : Q k = true
    · rw [if_pos hq, if_neg (fun h => by rw [hq] at h; cases h.2)]
    · have hq2 : Q k = false := by simpa using hq
      rw [if_neg hq]
      by_cases hk : k ∈ ys
      · rw [if_pos ⟨hk, hq2⟩]
      · rw [if_neg (fun h => hk h.1)]
        have h9 : ¬ (s.fm k).isSome = true := fun h => hk ((hK.2 k).2 h)
        simpa using h9
theorem dropG_at {Q : Int → Bool} {s : DkS} {ys : List Int} {i : Nat} {y : Int} (h : ys[i]? = some y) : (ys.take (i + 1)).foldl (dropG Q) s = dropG Q ((ys.take i).foldl (dropG Q) s) y := by
  rw [List.take_add_one, h, List.foldl_append]; rfl
set_option maxRecDepth 100000 in
theorem save1_any (Bn : Nat) (next n : Int) (w : World) (hB : Boxed w Bn 3 (.int .i64 next)) : Calls Tryd.prog 44 #[.int .i64 n, .pointer (some ⟨Bn, 0, none⟩)] w fun e w' => e = .returned (.bool (decide (next ≤ n))) ∧ w = w' := by
  have cB := hB.cell
  clear hB
  go_enter Tryd.func44, Tryd.ntmps44
  go_wp2
  go_ret
  exact ⟨rfl, rfl⟩
set_option maxRecDepth 100000 in
theorem open1_any (Bf Bs : Nat) (first n : Int) (sa : Option Addr) (m cs : Nat) (w : World) (h1 : Boxed w Bf 3 (.int .i64 first)) (h2 : Boxed w Bs 53 (.slice sa m cs)) (hf : 1 ≤ first ∧ first ≤ 2000000000) (hm : m ≤ 1000000) :
    Calls Tryd.prog 42 #[.int .i64 n, .pointer (some ⟨Bf, 0, none⟩), .pointer (some ⟨Bs, 0, none⟩)] w fun e w' => e = .returned (.bool (decide (first ≤ n) && decide (n < first + (m : Int)))) ∧ Below w.heap.size w w' := by
  have c1 := h1.cell; have c2 := h2.cell
  obtain ⟨f1, f2⟩ := hf
  clear h1 h2
  by_cases hq : first ≤ n
  · have hd : decide (first ≤ n) = true := decide_eq_true hq
    go_enter Tryd.func42, Tryd.ntmps42
    go_wp2
    go_ret
    exact ⟨by first | rfl | (rw [hd]; rfl), Below.refl _ _⟩
  · have hd : decide (first ≤ n) = false := decide_eq_false hq
    go_enter Tryd.func42, Tryd.ntmps42
    go_wp2
    go_ret
    exact ⟨by first | rfl | (rw [hd]; rfl), Below.refl _ _⟩

set_option maxRecDepth 100000 in
set_option maxHeartbeats 4000000 in
theorem dropS_any {base d c : Nat} {s : DkS} (Bn : Nat) (next : Int) (w : World) (h : DObj base w d c s) (hc : c ≤ 1000000) (hps : s.ps.length = 0) (hB : Boxed w Bn 3 (.int .i64 next)) :
    Calls Tryd.prog 41 #[pt d 0, .func (.func 44) #[] #[.pointer (some ⟨Bn, 0, none⟩)]] w fun e w' => e = .returned (.tuple #[]) ∧ DObj base w' d c (dropF (fun k => decide (next ≤ k)) s) ∧ ButD base w w' := by
  have H := Lib.hid h; have HPS := Lib.hid hps; have HX0 := Lib.hid hB
  clear h hps hB
  go_enter Tryd.func41, Tryd.ntmps41
  simp only [pt]
  go_wp2_with fail
  refine (tFiles w H.out hc).mono ?_
  rintro e w1 ⟨ys, u, rfl, hr, hK, hl, hD1, hb1⟩
  obtain ⟨ao, cap, rfl, -, -⟩ := row_view hr
  have HR1 := Lib.hid hr; have HK := Lib.hid hK; have HD1 := Lib.hid hD1; have HB1 := Lib.hid hb1
  have HX1 := Lib.hid (boxD HX0.out int_off hb1)
  have hyl : ys.length ≤ 1000000 := by omega
  clear hr hK hD1 hb1 hl
  go_wp2
  go_loopg [9] (ys.length + 1) (fun g s9 wr => ∃ i : Nat, s9 = .int .i64 i ∧ i ≤ ys.length ∧ ys.length + 1 ≤ i + g ∧ Hid (wr.ownsRow w.heap.size 3 1 (.slice ao ys.length cap) ys.length (ys.flatMap (intE .i64))) ∧ Hid (DObj base wr d c ((ys.take i).foldl (dropG (fun k => decide (next ≤ k))) s)) ∧ Hid (ButD base w wr) ∧ Hid (Boxed wr Bn 3 (.int .i64 next)))
  case atStart => exact ⟨0, rfl, by omega, by omega, HR1, HD1, HB1, HX1⟩
  case round =>
    obtain ⟨i, rfl, hi, hg, HR, HD, HB, HX⟩ := hrel
    by_cases hlt : i < ys.length
    · obtain ⟨y, hy⟩ : ∃ y, ys[i]? = some y := ⟨_, List.getElem?_eq_getElem hlt⟩
      obtain ⟨ao', c', e, -, hat⟩ := row_view HR.out
      cases e
      obtain ⟨g2, rfl, -, hg2⟩ := hat i hlt
      rw [flat_ints, List.getElem?_map, hy] at hg2
      replace hg2 : wr.cell? ⟨g2, i, none⟩ = some (.int .i64 y) := hg2
      have hst := dropG_at (Q := (fun k => decide (next ≤ k))) (s := s) hy
      have hps2 := (dropG_run (fun k => decide (next ≤ k)) (ys.take i) s).2.1
      have HST := Lib.hid hst; have HPS2 : Hid (((ys.take i).foldl (dropG (fun k => decide (next ≤ k))) s).ps.length = 0) := Lib.hid (by rw [hps2]; exact HPS.out)
      clear hy hat hst hps2
      go_wp2_with fail
      refine (save1_any Bn next y wr HX.out).mono ?_
      rintro e w4 ⟨rfl, rfl⟩
      have hPe : decide (next ≤ y) = (fun k => decide (next ≤ k)) y := rfl
      rw [hPe]
      clear hPe
      cases hP : (fun k : Int => decide (next ≤ k)) y with
      | true =>
        have hS : (ys.take (i + 1)).foldl (dropG (fun k => decide (next ≤ k))) s = (ys.take i).foldl (dropG (fun k => decide (next ≤ k))) s := by rw [HST.out]; unfold dropG; rw [if_pos hP]
        have HS := Lib.hid hS; clear hS hP
        go_wp2
        go_roundg (gk - 1)
        case rel => exact ⟨i + 1, by go_num, by omega, by omega, HR, Lib.hid (by rw [HS.out]; exact HD.out), HB, HX⟩
        case measure => omega
      | false =>
        have hS : (ys.take (i + 1)).foldl (dropG (fun k => decide (next ≤ k))) s = dpS ((ys.take i).foldl (dropG (fun k => decide (next ≤ k))) s) y := by rw [HST.out]; unfold dropG; rw [if_neg (by rw [hP]; decide)]
        have HS := Lib.hid hS; clear hS hP
        go_wp2_with fail
        refine (tDrop _ y HD.out HPS2.out).mono ?_
        rintro e w5 ⟨rfl, hD5, hb5⟩
        have HR5 := Lib.hid (rowD HR.out int_off hb5); have HB5 := Lib.hid (butD_tr HB.out hb5); have HX5 := Lib.hid (boxD HX.out int_off hb5)
        have HD5 := Lib.hid hD5
        clear hD5 hb5
        go_wp2
        go_roundg (gk - 1)
        case rel => exact ⟨i + 1, by go_num, by omega, by omega, HR5, Lib.hid (by rw [HS.out]; exact HD5.out), HB5, HX5⟩
        case measure => omega
    · have hq : i = ys.length := by omega
      subst hq
      rw [List.take_length, dropG_all HK.out] at HD
      go_wp2
      go_end0
      exact ⟨rfl, HD.out, HB.out⟩

set_option maxRecDepth 100000 in
set_option maxHeartbeats 4000000 in
theorem dropO_any {base d c : Nat} {s : DkS} (Bf Bs : Nat) (first : Int) (sa : Option Addr) (m cs : Nat) (w : World) (h : DObj base w d c s) (hc : c ≤ 1000000) (hps : s.ps.length = 0) (h1 : Boxed w Bf 3 (.int .i64 first)) (h2 : Boxed w Bs 53 (.slice sa m cs)) (hf : 1 ≤ first ∧ first ≤ 2000000000) (hm : m ≤ 1000000) :
    Calls Tryd.prog 41 #[pt d 0, .func (.func 42) #[] #[.pointer (some ⟨Bf, 0, none⟩), .pointer (some ⟨Bs, 0, none⟩)]] w fun e w' => e = .returned (.tuple #[]) ∧ DObj base w' d c (dropF (fun k => decide (first ≤ k) && decide (k < first + (m : Int))) s) ∧ ButD base w w' := by
  have H := Lib.hid h; have HPS := Lib.hid hps; have HX0 := Lib.hid h1; have HY0 := Lib.hid h2; have HF := Lib.hid hf
  clear h hps h1 h2 hf
  go_enter Tryd.func41, Tryd.ntmps41
  simp only [pt]
  go_wp2_with fail
  refine (tFiles w H.out hc).mono ?_
  rintro e w1 ⟨ys, u, rfl, hr, hK, hl, hD1, hb1⟩
  obtain ⟨ao, cap, rfl, -, -⟩ := row_view hr
  have HR1 := Lib.hid hr; have HK := Lib.hid hK; have HD1 := Lib.hid hD1; have HB1 := Lib.hid hb1
  have HX1 := Lib.hid (boxD HX0.out int_off hb1); have HY1 := Lib.hid (boxD HY0.out (by decide) hb1)
  have hyl : ys.length ≤ 1000000 := by omega
  clear hr hK hD1 hb1 hl
  go_wp2
  go_loopg [9] (ys.length + 1) (fun g s9 wr => ∃ i : Nat, s9 = .int .i64 i ∧ i ≤ ys.length ∧ ys.length + 1 ≤ i + g ∧ Hid (wr.ownsRow w.heap.size 3 1 (.slice ao ys.length cap) ys.length (ys.flatMap (intE .i64))) ∧ Hid (DObj base wr d c ((ys.take i).foldl (dropG (fun k => decide (first ≤ k) && decide (k < first + (m : Int)))) s)) ∧ Hid (ButD base w wr) ∧ Hid (Boxed wr Bf 3 (.int .i64 first)) ∧ Hid (Boxed wr Bs 53 (.slice sa m cs)))
  case atStart => exact ⟨0, rfl, by omega, by omega, HR1, HD1, HB1, HX1, HY1⟩
  case round =>
    obtain ⟨i, rfl, hi, hg, HR, HD, HB, HX, HY⟩ := hrel
    by_cases hlt : i < ys.length
    · obtain ⟨y, hy⟩ : ∃ y, ys[i]? = some y := ⟨_, List.getElem?_eq_getElem hlt⟩
      obtain ⟨ao', c', e, -, hat⟩ := row_view HR.out
      cases e
      obtain ⟨g2, rfl, -, hg2⟩ := hat i hlt
      rw [flat_ints, List.getElem?_map, hy] at hg2
      replace hg2 : wr.cell? ⟨g2, i, none⟩ = some (.int .i64 y) := hg2
      have hst := dropG_at (Q := (fun k => decide (first ≤ k) && decide (k < first + (m : Int)))) (s := s) hy
      have hps2 := (dropG_run (fun k => decide (first ≤ k) && decide (k < first + (m : Int))) (ys.take i) s).2.1
      have HST := Lib.hid hst; have HPS2 : Hid (((ys.take i).foldl (dropG (fun k => decide (first ≤ k) && decide (k < first + (m : Int)))) s).ps.length = 0) := Lib.hid (by rw [hps2]; exact HPS.out)
      clear hy hat hst hps2
      go_wp2_with fail
      refine (open1_any Bf Bs first y sa m cs wr HX.out HY.out HF.out hm).mono ?_
      rintro e w4 ⟨rfl, hbo⟩
      have HX := Lib.hid (boxed_non HX.out (below_grown hbo) (fun r e => nomatch e)); have HY := Lib.hid (boxed_non HY.out (below_grown hbo) (fun r e => nomatch e)); have HR := Lib.hid (row_below HR.out hbo); have HD := Lib.hid (HD.out.call hbo); have HB := Lib.hid (butD_tr HB.out (But.of_below hbo)); clear hbo
      have hPe : (decide (first ≤ y) && decide (y < first + (m : Int))) = (fun k => decide (first ≤ k) && decide (k < first + (m : Int))) y := rfl
      rw [hPe]
      clear hPe
      cases hP : (fun k : Int => decide (first ≤ k) && decide (k < first + (m : Int))) y with
      | true =>
        have hS : (ys.take (i + 1)).foldl (dropG (fun k => decide (first ≤ k) && decide (k < first + (m : Int)))) s = (ys.take i).foldl (dropG (fun k => decide (first ≤ k) && decide (k < first + (m : Int)))) s := by rw [HST.out]; unfold dropG; rw [if_pos hP]
        have HS := Lib.hid hS; clear hS hP
        go_wp2
        go_roundg (gk - 1)
        case rel => exact ⟨i + 1, by go_num, by omega, by omega, HR, Lib.hid (by rw [HS.out]; exact HD.out), HB, HX, HY⟩
        case measure => omega
      | false =>
        have hS : (ys.take (i + 1)).foldl (dropG (fun k => decide (first ≤ k) && decide (k < first + (m : Int)))) s = dpS ((ys.take i).foldl (dropG (fun k => decide (first ≤ k) && decide (k < first + (m : Int)))) s) y := by rw [HST.out]; unfold dropG; rw [if_neg (by rw [hP]; decide)]
        have HS := Lib.hid hS; clear hS hP
        go_wp2_with fail
        refine (tDrop _ y HD.out HPS2.out).mono ?_
        rintro e w5 ⟨rfl, hD5, hb5⟩
        have HR5 := Lib.hid (rowD HR.out int_off hb5); have HB5 := Lib.hid (butD_tr HB.out hb5); have HX5 := Lib.hid (boxD HX.out int_off hb5); have HY5 := Lib.hid (boxD HY.out (by decide) hb5)
        have HD5 := Lib.hid hD5
        clear hD5 hb5
        go_wp2
        go_roundg (gk - 1)
        case rel => exact ⟨i + 1, by go_num, by omega, by omega, HR5, Lib.hid (by rw [HS.out]; exact HD5.out), HB5, HX5, HY5⟩
        case measure => omega
    · have hq : i = ys.length := by omega
      subst hq
      rw [List.take_length, dropG_all HK.out] at HD
      go_wp2
      go_end0
      exact ⟨rfl, HD.out, HB.out⟩
end Go.Proofs.YtfiplhnplmadmaaDoor

/- Package point: begin. Conditions: texts of at most 60000 bytes, at most 700 of them. -/
namespace Go.Proofs.YtfiplhnplmadmaaDoor
open Go.RowKit Go.PlainAid Go.Shelf
set_option linter.unusedVariables false

theorem syn_off : ∀ (ps : List PcT) (fm : Int → Option FileM) (k : Int), (∀ p ∈ ps, p.1 ≠ k) → synF fm ps k = fm k
  | [], fm, k, _ => rfl
  | p :: r, fm, k, h => by
    show synF (putF fm p.1 _) r k = _
    rw [syn_off r _ k (fun q hq => h q (List.mem_cons_of_mem _ hq))]
    unfold putF
    rw [if_neg (fun e => h p (List.mem_cons_self ..) e.symm)]
theorem pcs_ge (first : Int) : ∀ (xs : List ByteArray) (A : List WSeg), ∀ p ∈ pcsA first A xs, first ≤ p.1
  | [], A, p, hp => by cases hp
  | x :: r, A, p, hp => by
    rcases List.mem_cons.1 hp with rfl | hp
    · show first ≤ first + (atA A : Int); omega
    · exact pcs_ge first r _ p hp
theorem WSG.sync_old {s : DkS} {first : Int} {A : List WSeg} {xs : List ByteArray} {old : Int → Option FileM} {p0 : List PcT} (h : WSG s first A xs old p0) (hp : p0 = []) (ho : ∀ k, k < first → old k = none) : ∀ k, k < first → synF s.fm s.ps k = none := fun k hk => by
  rw [syn_off _ _ _ (fun p hp2 => by rw [h.ps, hp, List.nil_append] at hp2; have := pcs_ge first xs A p hp2; omega), h.on k, if_neg (by omega)]
  exact ho k hk
/-- A log that is begun behind all other files of a disk. -/
structure BgO (base d c m : Nat) (first : Int) (s : DkS) (xs : List ByteArray) (old : Int → Option FileM) (p0 : List PcT) (w : World) : Prop where
  obj : DObj base w d c s
  log : WSG s first [] xs old p0
  dk : DkI s m
  tab : Tab w
  b0 : 0 < base
  c1 : c ≤ 1000 + m
  m1 : m ≤ 800
  f1 : 1 ≤ first ∧ first ≤ 1000000000
  x1 : xs.length ≤ m
section
variable {base d c m : Nat} {first : Int} {s : DkS} {xs : List ByteArray} {old : Int → Option FileM} {p0 : List PcT} {w x : World}
theorem BgO.turn (h : BgO base d c m first s xs old p0 w) (hD : DObj base x d c s) (hb : ButD base w x) : BgO base d c m first s xs old p0 x := ⟨hD, h.log, h.dk, tab_butD h.tab hb h.b0, h.b0, h.c1, h.m1, h.f1, h.x1⟩
theorem BgO.below (h : BgO base d c m first s xs old p0 w) (hb : Below w.heap.size w x) : BgO base d c m first s xs old p0 x := h.turn (h.obj.call hb) (But.of_below hb)
theorem BgO.logR (h : BgO base d c m first s xs old p0 w) : LogR base d c s first (xs.foldl appA []) w := by
  have hl := run_len xs []
  have hx := h.x1; have hm := h.m1; have hc := h.c1
  simp only [List.length_nil] at hl
  refine ⟨h.obj, by omega, h.log.logs, ⟨h.f1.1, by have := h.f1.2; omega⟩, by omega, fun y hy => ?_, ?_, h.tab, h.b0⟩
  · obtain ⟨i, hi⟩ := List.getElem?_of_mem hy
    have h10 := h.dk.len (first + (i : Int))
    rw [((h.log.logs).2 i).2] at h10
    unfold bytA at h10
    rw [hi] at h10
    have h11 : ((y.b.data.toList.length : Nat) : Int) ≤ m * 1048576 := h10
    rw [list_len] at h11
    omega
  · rw [txt_run, List.length_append]; simp [txtA]; omega
theorem BgO.here (h : BgO base d c m first s xs old p0 w) : wrE (hereA first (xs.foldl appA [])) = 0 := by
  have hl := run_len xs []
  have hx := h.x1; have hm := h.m1
  simp only [List.length_nil] at hl
  have := at_le (xs.foldl appA []); have := h.f1
  exact here_ok h.f1.1 (by unfold hereA; omega)
set_option maxRecDepth 100000 in
set_option maxHeartbeats 4000000 in
theorem bgAppend {N : Nat} (w : World) (t : ByteArray) (hW : Blk w N 41 #[.bool true, pt d 0, .int .i64 first]) (h : BgO base d c m first s xs old p0 w) (hm : m ≤ 700) (hsz : t.size ≤ 65536) : Calls Tryd.prog 12 #[pt N 0, .string t] w fun e w' => e = .returned (.int .i64 0) ∧ BgO base d (c + 1) (m + 1) first (wrS s (hereA first (xs.foldl appA [])) (frameB t)) (xs ++ [t]) old p0 w' ∧ ButD base w w' := by
  have c0 := hW.cell (k := 0) rfl; have c1 : w.cell? ⟨N, 1, none⟩ = some (.pointer (some ⟨d, 0, none⟩)) := hW.cell (k := 1) rfl; have c2 := hW.cell (k := 2) rfl
  have H := Lib.hid h; have HM := Lib.hid hm; have HW := Lib.hid hW
  clear h hW hm
  go_enter Tryd.func12, Tryd.ntmps12
  simp only [pt]
  go_wp2_with fail
  refine (put_frame t w H.out.tab (by omega)).mono ?_
  rintro e w1 ⟨rfl, hb1⟩
  have e1 : putR t = (frameB t, 0) := by unfold putR; rw [if_neg (by omega)]
  rw [e1]; unfold putV
  have HB1 := Lib.hid hb1; have H1 := Lib.hid (H.out.below hb1)
  have hW1 := HW.out.below hb1
  have d1 : w1.cell? ⟨N, 1, none⟩ = some (.pointer (some ⟨d, 0, none⟩)) := hW1.cell (k := 1) rfl; have d2 := hW1.cell (k := 2) rfl
  have HW1 := Lib.hid hW1
  clear hb1 e1 hW1 c0 c1 c2
  dsimp only
  go_wp2_with fail
  go_region_law (first | (go_simp; go_at_call 33; refine (here_any first _ _ (H1.out.below (grown_below (drew_grown _))).logR).mono ?_; rintro e w2 ⟨rfl, h2, hb2⟩; have HW2 := HW1.out.below (grown_below (drew_grown _)); have hq := Blk.grW HW2 (by decide) hb2; have k1 : w2.cell? ⟨N, 1, none⟩ = some (.pointer (some ⟨d, 0, none⟩)) := hq.cell (k := 1) rfl; have k2 := hq.cell (k := 2) rfl; have H2 := Lib.hid (((H1.out.below (grown_below (drew_grown _))).turn h2 hb2)); have HB2 := Lib.hid hb2; clear h2 hb2 hq HW2) | (go_simp; go_at_call 28; refine (tWrite _ (hereA first (xs.foldl appA [])) (frameB t) H2.out.obj (H2.out.dk.hsz (by have := HM.out; omega) _ (by have := frameB_le hsz; omega)) (H2.out.dk.hpl (by have := HM.out; omega))).mono ?_; rintro e w3 ⟨rfl, h3, hb3⟩))
  all_goals (have hhr := H2.out.here; have HH := Lib.hid hhr; clear hhr; have HD3 := Lib.hid h3; have HB3 := Lib.hid hb3; clear h3 hb3; go_wp2; go_ret; exact ⟨by rw [HH.out]; rfl, ⟨HD3.out, H.out.log.write hsz HH.out, H.out.dk.write _ _ (by have := frameB_le hsz; omega), tab_butD H2.out.tab HB3.out H.out.b0, H.out.b0, by have := H.out.c1; omega, by have := HM.out; omega, H.out.f1, by have := H.out.x1; simp; omega⟩, butD_tr (butD_tr (But.of_below HB1.out) (butD_tr (But.of_below (grown_below (drew_grown _))) HB2.out)) HB3.out⟩)
end
theorem ta_nilP (w : World) : (Instr.typeAssert Value.nilIface 20 29 true).run Tryd.prog w = .ok (.tuple #[.int .i64 0, .bool false]) w := by kernel_rfl
set_option maxRecDepth 100000 in
set_option maxHeartbeats 1600000 in
theorem bg_idle (p q r t : Addr) (w : World) :
    CallsD Tryd.prog 51 #[.pointer (some p), .pointer (some q), .pointer (some r), .pointer (some t)] .returning w fun e u' w' => e = .returned (.tuple #[]) ∧ u' = .returning ∧ w' = w := by
  refine callsD_of_wpS Tryd.func51 rfl fun c₀ cs hu => ?_
  apply wpS_seq
  apply wpS_region
  simp [wpOpsS, go_sem, recoverD, hu, Tryd.ntmps51, Exit.thenS, ta_nilP]
  apply wpS_seq
  apply wpS_region
  simp [wpOpsS, go_sem, recoverD, hu, Exit.thenS]
  refine wpS_cond (t := false) (by simp [Act.eval, Array.replicate]) ?_
  simp only [Bool.false_eq_true, if_false]
  refine wpS_of_wp (wp_skip ?_)
  cases c₀
  simp_all [bodyPostS, results, Tryd.results51]
set_option maxRecDepth 100000 in
theorem must_ok (w : World) : Calls Tryd.prog 54 #[.int .i64 0] w fun e w' => e = .returned (.tuple #[]) ∧ w = w' := by
  go_enter Tryd.func54, Tryd.ntmps54
  go_wp2
  go_end0
  exact ⟨rfl, rfl⟩
/-- The boxes of begin. -/
structure BgX (n0 d : Nat) (W : World) : Prop where
  bd : Boxed W n0 25 (pt d 0)
  bl : Blk W (n0 + 1) 59 #[.pointer none, .int .i64 0, .pointer none]
  be : Boxed W (n0 + 1 + 1) 29 (.int .i64 0)
theorem BgX.turn {n0 d base : Nat} {W X : World} (h : BgX n0 d W) (hb : ButD base W X) : BgX n0 d X := ⟨boxD h.bd (by decide) hb, blkD h.bl (by decide) hb, boxD h.be (by decide) hb⟩
theorem BgX.below {n0 d : Nat} {W X : World} (h : BgX n0 d W) (hb : Below W.heap.size W X) : BgX n0 d X := h.turn (base := 0) (But.of_below hb)
set_option maxRecDepth 100000 in
set_option maxHeartbeats 8000000 in
theorem begin_any {base d c m : Nat} {first : Int} {s : DkS} {old : Int → Option FileM} {p0 : List PcT} (v : Value) (l : List ByteArray) (w : World) (h : BgO base d c m first s [] old p0 w) (hs : ∀ X, ButD base w X → SliceOf strE 1 X v l) (hl : l.length + m ≤ 600) (hsz : ∀ z ∈ l, z.size ≤ 60000) :
    Calls Tryd.prog 37 #[pt d 0, .int .i64 first, v] w fun e w' => ∃ (N c' : Nat) (s' : DkS) (old' : Int → Option FileM), e = .returned (.tuple #[.agg #[pt d 0, .int .i64 first, pt N 0], .int .i64 0]) ∧ Blk w' N 41 #[.bool true, pt d 0, .int .i64 first] ∧
      WSG s' first ((hdP l.length :: l.map tT).foldl appA []) [] old' [] ∧ DObj base w' d c' s' ∧ c' ≤ 5000 ∧ DkI s' (m + l.length + 1) ∧ s'.boots = s.boots ∧ ButD base w w' ∧ (p0 = [] → (∀ k, k < first → old k = none) → ∀ k, k < first → old' k = none) := by
  have hmf : ∀ (fn : Fn) (first cap : Array Value) (w : World), (Instr.makeFunc fn first cap).run Tryd.prog w = .ok (.func fn first cap) w := fun _ _ _ _ => rfl
  have H := Lib.hid h; have HS := Lib.hid hs; have HL := Lib.hid hl; have HSZ := Lib.hid hsz
  clear h hs hl hsz
  go_enter_defers Tryd.func37, Tryd.ntmps37
  simp only [pt]
  go_wp2_with fail
  obtain ⟨n0, hn0⟩ : ∃ n, n = w.heap.size := ⟨_, rfl⟩
  have hB0 : Below w.heap.size w (((w.alloc (.cells #[.pointer (some ⟨d, 0, none⟩)] 25)).alloc (.cells #[.pointer none, .int .i64 0, .pointer none] 59)).alloc (.cells #[.int .i64 0] 29)) := (((Below.refl _ w).alloc (Nat.le_refl _) _).alloc (by simp) _).alloc (by simp; omega) _
  have hX0 : BgX w.heap.size d (((w.alloc (.cells #[.pointer (some ⟨d, 0, none⟩)] 25)).alloc (.cells #[.pointer none, .int .i64 0, .pointer none] 59)).alloc (.cells #[.int .i64 0] 29)) := by
    refine ⟨((Boxed.new w _ _).alloc _).alloc _, ?_, ?_⟩
    · have h1 := World.alloc_heap_new (w.alloc (.cells #[.pointer (some ⟨d, 0, none⟩)] 25)) (.cells #[.pointer none, .int .i64 0, .pointer none] 59)
      rw [World.size_alloc] at h1
      exact (Blk.kept (show Blk _ (w.heap.size + 1) _ _ from h1) (World.grownBy_alloc _ _ none) (by simp))
    · have h1 := Boxed.new ((w.alloc (.cells #[.pointer (some ⟨d, 0, none⟩)] 25)).alloc (.cells #[.pointer none, .int .i64 0, .pointer none] 59)) 29 (.int .i64 0)
      rw [World.size_alloc, World.size_alloc] at h1; exact h1
  obtain ⟨W0, hW0⟩ : ∃ W0, (((w.alloc (.cells #[.pointer (some ⟨d, 0, none⟩)] 25)).alloc (.cells #[.pointer none, .int .i64 0, .pointer none] 59)).alloc (.cells #[.int .i64 0] 29)) = W0 := ⟨_, rfl⟩
  rw [hW0] at hB0 hX0 ⊢
  have H0 := Lib.hid (H.out.below hB0); have HX0 := Lib.hid hX0; have HB0 : Hid (ButD base w W0) := Lib.hid (But.of_below hB0)
  clear hW0 hB0 hX0
  rw [← hn0] at HX0 ⊢
  have HN0 := Lib.hid hn0; clear hn0
  refine (tFiles W0 H0.out.obj (by have := H0.out.c1; have := H0.out.m1; omega)).mono ?_
  rintro e w1 ⟨ys, u, rfl, hr1, -, -, hD1, hb1⟩
  obtain ⟨ua, un, uc, rfl⟩ := own_slice hr1
  have H1 := Lib.hid (H0.out.turn hD1 hb1); have HX1 := Lib.hid (HX0.out.turn hb1); have HB1 := Lib.hid (butD_tr HB0.out hb1)
  have k1 := HX1.out.bd.cell
  have kl := HX1.out.bd.lt
  simp only [pt] at k1
  clear hr1 hD1 hb1
  go_wp2_with fail
  have hg2 := World.grownBy_alloc w1 (.cells #[.slice ua un uc] 53) none
  obtain ⟨w2, hw2⟩ : ∃ w2, w2 = w1.alloc (.cells #[.slice ua un uc] 53) := ⟨_, rfl⟩
  rw [← hw2] at hg2 ⊢
  have H2 := Lib.hid (H1.out.below (grown_below hg2)); have HX2 := Lib.hid (HX1.out.below (grown_below hg2)); have HB2 := Lib.hid (butD_tr HB1.out (But.of_below (grown_below hg2)))
  have HW2 := Lib.hid hw2
  clear hw2 hg2 k1
  refine (wopen_any first [] w2 H2.out.logR).mono ?_
  rintro e w3 ⟨N, u3, rfl, hW3, -, hD3, hb3⟩
  have H3 := Lib.hid (H2.out.turn hD3 hb3); have HX3 := Lib.hid (HX2.out.turn hb3); have HB3 := Lib.hid (butD_tr HB2.out hb3); have HW3 := Lib.hid hW3
  clear hW3 hD3 hb3
  simp only [pt]
  go_wp2_with fail
  refine (must_ok w3).mono ?_
  rintro e w3' ⟨rfl, rfl⟩
  have hsl := HS.out w3 HB3.out
  obtain ⟨va, vc, rfl, -⟩ := hsl
  have hll := HL.out
  go_wp2_with fail
  refine (put_any (l.length : Int) w3 (by omega) (by omega)).mono ?_
  rintro e w4 ⟨rfl, hb4⟩
  have H4 := Lib.hid (H3.out.below hb4); have HX4 := Lib.hid (HX3.out.below hb4); have HB4 := Lib.hid (butD_tr HB3.out (But.of_below hb4)); have HW4 := Lib.hid (HW3.out.below hb4)
  have hds := hd_size l.length
  have hdl := lenOf_bd (l.length : Int)
  obtain ⟨P, hP⟩ : ∃ P : ByteArray, P = ⟨(putL (l.length : Int)).toArray⟩ := ⟨_, rfl⟩
  have hPd : (⟨#[80]⟩ : ByteArray) ++ P = hdP l.length := by rw [hP]; rfl
  have hPs : P.size ≤ 9 := by
    have h1 : (hdP l.length).size = P.size + 1 := by rw [← hPd, one_size]
    omega
  rw [← hP]
  have HPD := Lib.hid hPd
  clear hb4 hds hdl hP hPd
  go_wp2_with fail
  have hPz : (hdP l.length).size ≤ 10 := by rw [← HPD.out, one_size]; omega
  rw [HPD.out]
  refine (bgAppend w4 (hdP l.length) HW4.out H4.out (by omega) (by omega)).mono ?_
  rintro e w5 ⟨rfl, h5, hb5⟩
  have H5 := Lib.hid h5; have HX5 := Lib.hid (HX4.out.turn hb5); have HB5 := Lib.hid (butD_tr HB4.out hb5); have HW5 := Lib.hid (HW4.out.grW (by decide) hb5)
  have hbo : (wrS s (hereA first (([] : List ByteArray).foldl appA [])) (frameB (hdP l.length))).boots = s.boots := by unfold wrS; split <;> rfl
  have HBO := Lib.hid hbo
  clear h5 hb5 hbo
  go_wp2_with fail
  refine (must_ok w5).mono ?_
  rintro e w5' ⟨rfl, rfl⟩

  go_wp2_with fail
  go_loopg [36] (l.length + 1) (fun g s36 wr => ∃ (i : Nat) (si : DkS), s36 = .int .i64 i ∧ i ≤ l.length ∧ l.length + 1 ≤ i + g ∧ si.boots = s.boots ∧ Hid (BgO base d (c + 1 + i) (m + 1 + i) first si (hdP l.length :: (l.take i).map tT) old p0 wr) ∧ Hid (BgX n0 d wr) ∧ Hid (Blk wr N 41 #[.bool true, pt d 0, .int .i64 first]) ∧ Hid (ButD base w wr))
  case atStart => exact ⟨0, _, rfl, by omega, by omega, HBO.out, H5, HX5, HW5, HB5⟩
  case round =>
    obtain ⟨i, si, rfl, hi, hg, hbo, HI, HXI, HWI, HBI⟩ := hrel
    by_cases hlt : i < l.length
    · obtain ⟨va', vc', e, -, -, -, hat⟩ := HS.out wr HBI.out
      cases e
      obtain ⟨gb, go, rfl, hr⟩ := hat i hlt
      have hz1 := HSZ.out l[i] (List.getElem_mem hlt)
      have hz : l[i]? = some l[i] := List.getElem?_eq_getElem hlt
      obtain ⟨z, hzz⟩ : ∃ z, z = l[i] := ⟨_, rfl⟩
      rw [← hzz] at hz1 hr hz
      have hg2 : wr.cell? ⟨gb, go + i, none⟩ = some (.string z) := by
        have h9 := hr 0 (.string z) rfl
        rw [Nat.mul_one] at h9
        exact h9
      have hTd : (⟨#[84]⟩ : ByteArray) ++ z = tT z := rfl
      have HTD := Lib.hid hTd; have HZ := Lib.hid hz; have HLT := Lib.hid hlt
      clear hat hr hzz hTd hz
      go_wp2_with fail
      have hTz : (tT z).size ≤ 60001 := by rw [← HTD.out, one_size]; omega
      rw [HTD.out]
      refine (bgAppend wr (tT z) HWI.out HI.out (by omega) (by omega)).mono ?_
      rintro e w6 ⟨rfl, h6, hb6⟩
      have HX6 := Lib.hid (HXI.out.turn hb6); have HB6 := Lib.hid (butD_tr HBI.out hb6); have HW6 := Lib.hid (HWI.out.grW (by decide) hb6)
      have hbo6 : (wrS si (hereA first ((hdP l.length :: (l.take i).map tT).foldl appA [])) (frameB (tT z))).boots = s.boots := by unfold wrS; split <;> exact hbo
      have hls : (hdP l.length :: (l.take i).map tT) ++ [tT z] = hdP l.length :: (l.take (i + 1)).map tT := by
        rw [List.take_add_one, HZ.out, List.map_append]; rfl
      rw [hls] at h6
      have H6 := Lib.hid h6; have HBO6 := Lib.hid hbo6
      clear h6 hb6 hbo6 hls hbo
      go_wp2_with fail
      refine (must_ok w6).mono ?_
      rintro e w6' ⟨rfl, rfl⟩
      go_wp2
      go_roundg (gk - 1)
      case rel => exact ⟨i + 1, _, by go_num, HLT.out, by omega, HBO6.out, H6, HX6, HW6, HB6⟩
      case measure => omega
    · have hq : i = l.length := by omega
      subst hq
      rw [List.take_length] at HI
      have k1 := HXI.out.bd.cell
      simp only [pt] at k1
      have HBOI := Lib.hid hbo
      clear hbo
      go_wp2_with fail
      refine (tSync wr HI.out.obj (HI.out.dk.hsb (by have := HI.out.m1; omega))).mono ?_
      rintro e w7 ⟨rfl, hD7, hb7⟩
      have HX7 := Lib.hid (HXI.out.turn hb7); have HB7 := Lib.hid (butD_tr HBI.out hb7); have HW7 := Lib.hid (HWI.out.grW (by decide) hb7); have HD7 := Lib.hid hD7
      have k2 := HX7.out.bd.cell
      simp only [pt] at k2
      clear hD7 hb7 k1
      have f0 := HX7.out.bl.frozen 0; have f1 := HX7.out.bl.frozen 1; have f2 := HX7.out.bl.frozen 2
      have d0 := HX7.out.bl.cell (k := 0) rfl; have d1 := HX7.out.bl.cell (k := 1) rfl; have d2 := HX7.out.bl.cell (k := 2) rfl
      have g0 := (Boxed.blkW HX7.out.be).frozen 0; have e0 := HX7.out.be.cell
      go_wp2
      have hnW : N ≠ n0 + 1 := fun e => by have h1 := HW7.out; rw [e] at h1; exact absurd (Option.some.inj (h1.symm.trans HX7.out.bl)) (by simp)
      have hnE : N ≠ n0 + 1 + 1 := fun e => by have h1 := HW7.out; rw [e] at h1; exact absurd (Option.some.inj (h1.symm.trans (Boxed.blkW HX7.out.be))) (by simp)
      have hne1 : n0 + 1 ≠ n0 + 1 + 1 := by omega
      have q0 := setCell_blk HX7.out.bl 0 (.pointer (some ⟨d, 0, none⟩))
      have q1 := setCell_blk q0 1 (.int .i64 first)
      have q2 := setCell_blk q1 2 (.pointer (some ⟨N, 0, none⟩))
      have q3 := q2.kept (grown_setCell _ (n0 + 1 + 1) 0 (.int .i64 0)) (fun e => hne1 (Option.some.inj e).symm)
      have r0 := (Boxed.blkW HX7.out.be).kept (grown_setCell _ (n0 + 1) 0 (.pointer (some ⟨d, 0, none⟩))) (fun e => hne1 (Option.some.inj e))
      have r1 := r0.kept (grown_setCell _ (n0 + 1) 1 (.int .i64 first)) (fun e => hne1 (Option.some.inj e))
      have r2 := r1.kept (grown_setCell _ (n0 + 1) 2 (.pointer (some ⟨N, 0, none⟩))) (fun e => hne1 (Option.some.inj e))
      have r3 := setCell_blk r2 0 (.int .i64 0)
      have n1 := HW7.out.kept (grown_setCell _ (n0 + 1) 0 (.pointer (some ⟨d, 0, none⟩))) (fun e => hnW (Option.some.inj e).symm)
      have n2 := n1.kept (grown_setCell _ (n0 + 1) 1 (.int .i64 first)) (fun e => hnW (Option.some.inj e).symm)
      have n3 := n2.kept (grown_setCell _ (n0 + 1) 2 (.pointer (some ⟨N, 0, none⟩))) (fun e => hnW (Option.some.inj e).symm)
      have n4 := n3.kept (grown_setCell _ (n0 + 1 + 1) 0 (.int .i64 0)) (fun e => hnE (Option.some.inj e).symm)
      have o1 := HD7.out.at HX7.out.bl (by decide) (grown_setCell _ (n0 + 1) 0 (.pointer (some ⟨d, 0, none⟩)))
      have o2 := o1.at q0 (by decide) (grown_setCell _ (n0 + 1) 1 (.int .i64 first))
      have o3 := o2.at q1 (by decide) (grown_setCell _ (n0 + 1) 2 (.pointer (some ⟨N, 0, none⟩)))
      have o4 := o3.at r2 (by decide) (grown_setCell _ (n0 + 1 + 1) 0 (.int .i64 0))
      have hn9 := HN0.out
      have b4 := (((HB7.out.setCell (p := ⟨n0 + 1, 0, none⟩) (fun hp => absurd hp (by simp only; omega)) (.pointer (some ⟨d, 0, none⟩))).setCell (p := ⟨n0 + 1, 1, none⟩) (fun hp => absurd hp (by simp only; omega)) (.int .i64 first)).setCell (p := ⟨n0 + 1, 2, none⟩) (fun hp => absurd hp (by simp only; omega)) (.pointer (some ⟨N, 0, none⟩))).setCell (p := ⟨n0 + 1 + 1, 0, none⟩) (fun hp => absurd hp (by simp only; omega)) (.int .i64 0)
      obtain ⟨W8, hW8⟩ : ∃ W8, ((((w7.setCell ⟨n0 + 1, 0, none⟩ (.pointer (some ⟨d, 0, none⟩))).setCell ⟨n0 + 1, 1, none⟩ (.int .i64 first)).setCell ⟨n0 + 1, 2, none⟩ (.pointer (some ⟨N, 0, none⟩))).setCell ⟨n0 + 1 + 1, 0, none⟩ (.int .i64 0)) = W8 := ⟨_, rfl⟩
      rw [hW8] at q3 r3 n4 o4 b4 ⊢
      have x0 := q3.cell (k := 0) rfl; have x1 := q3.cell (k := 1) rfl; have x2 := q3.cell (k := 2) rfl; have x3 := r3.cell (k := 0) rfl
      have X0 := Lib.hid x0; have X1 := Lib.hid x1; have X2 := Lib.hid x2; have X3 := Lib.hid x3; have XN := Lib.hid n4; have XO := Lib.hid o4; have XB := Lib.hid b4
      clear hW8 q0 q1 q2 q3 r0 r1 r2 r3 n1 n2 n3 n4 o1 o2 o3 o4 b4 f0 f1 f2 d0 d1 d2 g0 e0 hn9 hnW hnE hne1 x0 x1 x2 x3
      refine leaves_cons (f := 51) (args := #[.pointer (some ⟨n0, 0, none⟩), .pointer (some ⟨w1.heap.size, 0, none⟩), .pointer (some ⟨n0 + 1, 0, none⟩), .pointer (some ⟨n0 + 1 + 1, 0, none⟩)]) (by simp) (by simp [go_sem]) ?_
      refine (bg_idle _ _ _ _ _).mono ?_
      rintro e u' w'' ⟨rfl, rfl, rfl⟩
      simp only [Leaves, settle, results, Tryd.results37]
      have x0 := X0.out; have x1 := X1.out; have x2 := X2.out; have x3 := X3.out
      simp [go_sem, x0, x1, x2, x3]
      exact ⟨XN.out, c + 1 + l.length + si.ps.length, _, _, HI.out.log.sync, XO.out, (by have := HI.out.c1; have := HI.out.m1; have := HI.out.dk.pl; omega), HI.out.dk.sync.1.up (by omega), HBOI.out, XB.out, fun e1 e2 k hk => by (rw [if_neg (by omega)]; exact HI.out.log.sync_old e1 e2 k hk)⟩
end Go.Proofs.YtfiplhnplmadmaaDoor

/- Package point: a point as one object; Append, Sync, Texts, New, Save on it. Conditions: at most 600 calls. -/
namespace Go.Proofs.YtfiplhnplmadmaaDoor
open Go.RowKit Go.PlainAid Go.Shelf
set_option linter.unusedVariables false

/-- A point that holds texts L; 'sure' of them are safe, cp of them came with the checkpoint; m calls at most. -/
def PtO (base : Nat) (w : World) (d m p : Nat) (L : List ByteArray) (sure cp : Nat) (A : List WSeg) : Prop :=
  ∃ (first : Int) (xs : List ByteArray) (N : Nat), Blk w p 61 #[.bool true, pt d 0, .int .i64 first, pt N 0] ∧ Blk w N 41 #[.bool true, pt d 0, .int .i64 first] ∧ WlO base w d m first A xs ∧
    txtA A = hdP cp :: (L.take sure).map tT ∧ xs = (L.drop sure).map tT ∧ cp ≤ sure ∧ sure ≤ L.length ∧ (first ≤ 1 + (m : Int) * 1000 ∧ base ≤ p)
section
variable {base d m p : Nat} {L : List ByteArray} {sure cp : Nat} {A : List WSeg} {w x : World}
theorem PtO.turnD (h : PtO base w d m p L sure cp A) (hD : ∀ m first A xs, WlO base w d m first A xs → WlO base x d m first A xs) (hb : ButD base w x) : PtO base x d m p L sure cp A := by
  obtain ⟨first, xs, N, h1, h2, h3, h4⟩ := h; exact ⟨first, xs, N, blkD h1 (by decide) hb, blkD h2 (by decide) hb, hD _ _ _ _ h3, h4⟩
theorem PtO.call (h : PtO base w d m p L sure cp A) (hb : Below w.heap.size w x) : PtO base x d m p L sure cp A := h.turnD (fun _ _ _ _ h => h.call hb) (But.of_below hb)
theorem PtO.new (h : PtO base w d m p L sure cp A) (hg : w.grownBy x none) : PtO base x d m p L sure cp A := by
  obtain ⟨first, xs, N, h1, h2, h3, h4⟩ := h; exact ⟨first, xs, N, h1.kept hg (fun e => nomatch e), h2.kept hg (fun e => nomatch e), h3.new hg, h4⟩
theorem PtO.row {B sz k : Nat} {e : TypeId} {v : Value} {ys : List Value} (h : PtO base w d m p L sure cp A) (hr : w.ownsRow B e sz v k ys) (hT : offD e) (hP : e ≠ 61) (hW : e ≠ 41) (hg : w.grownBy x v.ownBlock) : PtO base x d m p L sure cp A := by
  obtain ⟨first, xs, N, h1, h2, h3, h4⟩ := h; exact ⟨first, xs, N, h1.kept hg (own_neT hr h1 hP), h2.kept hg (own_neT hr h2 hW), h3.row hr hT hg, h4⟩
theorem PtO.up {m' : Nat} (h : PtO base w d m p L sure cp A) (hm : m ≤ m') : PtO base w d m' p L sure cp A := by
  obtain ⟨first, xs, N, h1, h2, h3, h4, h5, h6, h7, h8⟩ := h; exact ⟨first, xs, N, h1, h2, h3.up hm, h4, h5, h6, h7, by omega, h8.2⟩
theorem PtO.eq {L' : List ByteArray} {s' : Nat} {A' : List WSeg} (h : PtO base w d m p L sure cp A) (e1 : L = L') (e2 : sure = s') (e3 : A = A') : PtO base w d m p L' s' cp A' := by subst e1 e2 e3; exact h
theorem PtO.len (h : PtO base w d m p L sure cp A) : L.length ≤ m ∧ sure ≤ L.length ∧ cp ≤ sure := by
  obtain ⟨first, xs, N, h1, h2, h3, h4, h5, h6, h7, h8⟩ := h
  have := h3.len.2
  rw [h4, h5, List.length_cons, List.length_map, List.length_map, List.length_take, List.length_drop] at this
  omega
set_option maxRecDepth 100000 in
theorem pzero_any {a b c : Value} (w : World) (hB : Blk w p 61 #[.bool true, a, b, c]) : Calls Tryd.prog 38 #[pt p 0] w fun e w' => e = .returned (.bool false) ∧ w = w' := by
  have c0 := hB.cell (k := 0) rfl
  clear hB
  go_enter Tryd.func38, Tryd.ntmps38
  simp only [pt]
  go_wp2
  go_ret
  exact ⟨rfl, rfl⟩
set_option maxRecDepth 100000 in
set_option maxHeartbeats 4000000 in
theorem ptAppend (w : World) (t : ByteArray) (h : PtO base w d m p L sure cp A) (hm : m ≤ 800) (ht : Tab w) (hb : 0 < base) (hsz : t.size ≤ 60000) : Calls Tryd.prog 21 #[pt p 0, .string t] w fun e w' => e = .returned (.int .i64 0) ∧ PtO base w' d (m + 1) p (L ++ [t]) sure cp A ∧ ButD base w w' := by
  obtain ⟨first, xs, N, h1, h2, h3, h4, h5, h6, h7, h8⟩ := h
  have c3 : w.cell? ⟨p, 3, none⟩ = some (.pointer (some ⟨N, 0, none⟩)) := h1.cell (k := 3) rfl
  have H1 := Lib.hid h1; have H2 := Lib.hid h2; have H3 := Lib.hid h3; have HT := Lib.hid ht; have H4 := Lib.hid h4; have H5 := Lib.hid h5
  have hTd : (⟨#[84]⟩ : ByteArray) ++ t = tT t := rfl
  have HTD := Lib.hid hTd
  clear h1 h2 h3 ht h4 h5 hTd
  go_enter Tryd.func21, Tryd.ntmps21
  simp only [pt]
  go_wp2_with fail
  refine (pzero_any w H1.out).mono ?_
  rintro e w1 ⟨rfl, rfl⟩
  have hsq : decide ((65536 : Int) ≤ (t.size : Int)) = false := decide_eq_false (by omega)
  have HSZ := Lib.hid hsz
  have hszz : t.size ≤ 9223372036854775000 := Nat.le_trans hsz (by decide)
  clear hsz
  go_wp2_with fail
  have hTz : (tT t).size ≤ 60001 := by have := HSZ.out; rw [← HTD.out, one_size]; omega
  rw [HTD.out]
  refine (wlAppend w (tT t) H2.out H3.out hm HT.out hb (by omega)).mono ?_
  rintro e w2 ⟨rfl, h9, hb9⟩
  have H9 := Lib.hid h9; have HB9 := Lib.hid hb9
  clear h9 hb9
  go_wp2
  go_ret
  refine ⟨rfl, ⟨first, _, N, blkD H1.out (by decide) HB9.out, blkD H2.out (by decide) HB9.out, H9.out, ?_, ?_, h6, by simp; omega, by omega, h8.2⟩, HB9.out⟩
  · rw [H4.out, List.take_append_of_le_length h7]
  · rw [H5.out, List.drop_append_of_le_length h7, List.map_append]; rfl
set_option maxRecDepth 100000 in
set_option maxHeartbeats 4000000 in
theorem ptSync (w : World) (h : PtO base w d m p L sure cp A) (hm : m ≤ 900) : Calls Tryd.prog 22 #[pt p 0] w fun e w' => ∃ k : Int, e = .returned (.int .i64 k) ∧ PtO base w' d (m + 1) p L L.length cp (((L.drop sure).map tT).foldl appA A) ∧ ButD base w w' := by
  obtain ⟨first, xs, N, h1, h2, h3, h4, h5, h6, h7, h8⟩ := h
  subst h5
  have c1 : w.cell? ⟨p, 1, none⟩ = some (.pointer (some ⟨d, 0, none⟩)) := h1.cell (k := 1) rfl
  have H1 := Lib.hid h1; have H2 := Lib.hid h2; have H3 := Lib.hid h3; have H4 := Lib.hid h4
  clear h1 h2 h3 h4
  go_enter Tryd.func22, Tryd.ntmps22
  simp only [pt]
  go_wp2_with fail
  refine (pzero_any w H1.out).mono ?_
  rintro e w1 ⟨rfl, rfl⟩
  go_wp2_with fail
  refine (wlSync w H3.out hm).mono ?_
  rintro e w2 ⟨k, rfl, h9, hb9⟩
  have H9 := Lib.hid h9; have HB9 := Lib.hid hb9
  clear h9 hb9
  go_wp2
  go_ret
  refine ⟨_, rfl, ⟨first, _, N, blkD H1.out (by decide) HB9.out, blkD H2.out (by decide) HB9.out, H9.out, ?_, ?_, by omega, Nat.le_refl _, by omega, h8.2⟩, HB9.out⟩
  · rw [txt_run, H4.out, List.take_length, List.cons_append, ← List.map_append, List.take_append_drop]
  · rw [List.drop_length]; rfl
set_option maxRecDepth 100000 in
set_option maxHeartbeats 4000000 in
theorem ptTexts (w : World) (h : PtO base w d m p L sure cp A) (hm : m ≤ 900) (ht : Tab w) (hb : 0 < base) : Calls Tryd.prog 23 #[pt p 0] w fun e w' => ∃ u : Value, e = .returned u ∧ w'.ownsRow w.heap.size 9 1 u L.length (L.flatMap strE) ∧ PtO base w' d m p L sure cp A ∧ ButD base w w' := by
  have hln := h.len
  obtain ⟨first, xs, N, h1, h2, h3, h4, h5, h6, h7, h8⟩ := h
  have hL : ownB (txtA A ++ xs) = L := by rw [h4, h5, List.cons_append, ← List.map_append, List.take_append_drop, own_log]
  have hLn : (txtA A ++ xs).length ≤ 1000000 := by rw [List.length_append]; have := h3.len.2; omega
  have c1 : w.cell? ⟨p, 1, none⟩ = some (.pointer (some ⟨d, 0, none⟩)) := h1.cell (k := 1) rfl
  have c2 := h1.cell (k := 2) rfl
  have H1 := Lib.hid h1; have H2 := Lib.hid h2; have H3 := Lib.hid h3; have H4 := Lib.hid h4; have H5 := Lib.hid h5; have HT := Lib.hid ht; have HLL := Lib.hid hL
  have HM := Lib.hid hm
  clear h1 h2 h3 h4 h5 ht hL hm
  go_enter Tryd.func23, Tryd.ntmps23
  simp only [pt]
  go_wp2_with fail
  refine (pzero_any w H1.out).mono ?_
  rintro e w1 ⟨rfl, rfl⟩
  go_wp2_with fail
  go_region_law (go_simp; go_at_call 16; refine (wlRead _ (H3.out.new (drew_grown _)) HM.out (HT.out.below (grown_below (drew_grown _))) hb).mono ?_; rintro e w2 ⟨u2, rfl, hr2, h9, hb9⟩)
  all_goals (have hsz2 := (grown_below (drew_grown w)).size; have hr3 := row_lows hr2 hsz2; have HR2 := Lib.hid hr3; have H9 := Lib.hid h9; have HB9 := Lib.hid (butD_tr (But.of_below (grown_below (drew_grown w))) hb9); clear hr2 h9 hb9 hsz2 hr3; go_wp2_with fail)
  all_goals (refine (own_any u2 _ w2 (SliceOf.own HR2.out (fun _ _ => rfl)) hLn).mono ?_; rintro e w3 ⟨u3, rfl, hr3, hb3⟩; have hsz3 := HB9.out.size; rw [HLL.out] at hr3; have hr4 := row_lows hr3 hsz3; have HR3 := Lib.hid hr4; have HB3 := Lib.hid hb3; clear hr3 hr4 hb3)
  all_goals (go_wp2; go_ret; exact ⟨_, rfl, HR3.out, ⟨first, xs, N, (blkD H1.out (by decide) HB9.out).below HB3.out, (blkD H2.out (by decide) HB9.out).below HB3.out, H9.out.call HB3.out, H4.out, H5.out, h6, h7, h8⟩, butD_tr HB9.out (But.of_below HB3.out)⟩)
/-- What Save changes: the disk's, and the point. -/
abbrev ButP (base p : Nat) (w x : World) : Prop := But (fun k => SD base w k ∨ k = p) w x
theorem butP_of (hb : ButD base w x) : ButP base p w x := hb.mono (fun k _ hk => .inl hk)
theorem butP_tr {A B : World} (h : ButP base p w A) (g : ButD base A B) : ButP base p w B :=
  h.trans' g (fun i hi hs => by
    by_cases hq : SD base w i ∨ i = p
    · exact hq
    · have e := h.block i hi hq
      have h2 := hs.2
      unfold TyS at h2; rw [e] at h2; exact .inl ⟨hs.1, h2⟩)
theorem rowP {B sz k : Nat} {e : TypeId} {v : Value} {ys : List Value} {cs : Array Value} (hr : w.ownsRow B e sz v k ys) (hT : offD e) (hb : ButP base p w x) (hp : Blk w p 61 cs) (hP : e ≠ 61) : x.ownsRow B e sz v k ys :=
  row_same hr hb.size fun i hi => by
    obtain ⟨cs2, hc⟩ := row_block hr hi
    refine hb.block i (Array.getElem?_eq_some_iff.1 hc).1 (fun h => ?_)
    rcases h with h | h
    · exact not_ty hc hT h.2
    · subst h; exact own_neT hr hp hP hi
theorem hbP {w0 : World} (h : Below w0.heap.size w0 w) (hb : ButP w0.heap.size p w x) (hp : w0.heap.size ≤ p) : Below w0.heap.size w0 x := below_but h hb h.size (fun i _ h => by rcases h with h | h; exact h.1; omega)
theorem PtO.blk (h : PtO base w d m p L sure cp A) : ∃ cs, Blk w p 61 cs := by obtain ⟨first, xs, N, h1, -⟩ := h; exact ⟨_, h1⟩
theorem PtO.lo (h : PtO base w d m p L sure cp A) : base ≤ p := by obtain ⟨first, xs, N, h1, h2, h3, h4, h5, h6, h7, h8⟩ := h; exact h8.2
end
end Go.Proofs.YtfiplhnplmadmaaDoor
