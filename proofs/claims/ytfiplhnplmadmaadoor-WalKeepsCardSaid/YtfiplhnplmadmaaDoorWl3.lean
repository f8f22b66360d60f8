/- Put together: WalAWk, RfQWk, WalBWk, WalCWk, WalDWk, WalEWk, WalFWk, WalGWk, WalHWk, WalIWk, OpenWk, WalKWk, SumLaidWk. Conditions: as each says. -/
import Derived.Test.YtfiplhnplmadmaaDoorWl2
import Derived.Test.YtfiplhnplmadmaaDoorWl1
import Derived.RangeFuncNested
import Derived.RangeFuncBound
import Derived.RangeFuncCalls
import Derived.RangeFuncLeaves
import Derived.RangeFuncBox
import Derived.Shelf.Abstract
import Derived.Shelf.RegionOpen
import Derived.WalkKit
import Derived.OwnWalkIn
import Derived.TacticsInMore
import Derived.ProofKit
import Derived.Deep.Slices
import Derived.Deep.Fields
import Derived.Test.YtfiplhnplmadmaaDoorTie
import Derived.LaidMore
import Derived.Lib.LaidTab
import Derived.Stop.Joined
/- Package wal, pure: a log's segments on a disk; what an append and a crash make of them. Conditions: none. -/
namespace Go.Proofs.YtfiplhnplmadmaaDoor
open Go.RowKit Go.PlainAid
set_option linter.unusedVariables false

/-- A segment: its texts, and what is torn behind them. -/
structure WSeg where
  T : List ByteArray
  q : ByteArray
def WSeg.b (y : WSeg) : ByteArray := catF y.T ++ y.q
def SegOk (y : WSeg) : Prop := (∀ x ∈ y.T, x.size ≤ 65536) ∧ ∃ x : ByteArray, x.size ≤ 65536 ∧ y.q.data.toList <+: (frameB x).data.toList ∧ y.q.size < (frameB x).size
theorem bsz_app (a b : ByteArray) : (a ++ b).size = a.size + b.size := by rw [← list_len, app_list, List.length_append, list_len, list_len]
theorem frameB_pos (x : ByteArray) : 4 < (frameB x).size := by
  have h := frameB_size x
  have h2 : 0 < (putL (x.size : Int)).length := by
    rcases hl : putL (x.size : Int) with _ | ⟨a, r⟩
    · exfalso; revert hl; unfold putL; split <;> simp
    · simp
  omega
theorem seg_all {y : WSeg} (h : SegOk y) : AllR y.b y.T ((catF y.T).size : Int) (if y.q.size = 0 then 0 else 2) := by
  obtain ⟨h1, x, h2, h3, h4⟩ := h
  have hsz : y.b.size = (catF y.T).size + y.q.size := bsz_app _ _
  have hpre : y.b.data.toList <+: (catF (y.T ++ [x])).data.toList := by
    rw [catF_snoc]; unfold WSeg.b; rw [app_list, app_list]
    exact (List.prefix_append_right_inj _).2 h3
  have ht : (y.T ++ [x]).take y.T.length = y.T := by simp
  have ht2 : (y.T ++ [x]).take (y.T.length + 1) = y.T ++ [x] := List.take_of_length_le (by simp)
  have h := all_cut (y.T ++ [x]) (by intro z hz; rcases List.mem_append.1 hz with hz | hz; exact h1 z hz; simp at hz; subst hz; exact h2) y.b hpre y.T.length (by simp) (by rw [ht]; omega) (.inr (by rw [ht2, catF_snoc, bsz_app]; omega))
  rw [ht] at h
  refine ⟨h.1, ?_⟩
  have e : (if (catF y.T).size = y.b.size then (0 : Int) else 2) = if y.q.size = 0 then 0 else 2 := by
    by_cases hq : y.q.size = 0
    · rw [if_pos hq, if_pos (by omega)]
    · rw [if_neg hq, if_neg (by omega)]
  rw [← e]; exact h.2
def fullS (y : WSeg) : Bool := decide (256 ≤ y.b.size) || decide (y.q.size ≠ 0)
def txtA (A : List WSeg) : List ByteArray := A.flatMap (·.T)
/-- The place, in the list, at which one writes on. -/
def atA (A : List WSeg) : Nat := match A.getLast? with
  | some y => if fullS y = true then A.length else A.length - 1
  | none => 0
/-- x is written behind the rest of it: whole, or (q) its beginning. -/
def putA (A : List WSeg) (f : WSeg → WSeg) : List WSeg := if atA A < A.length then A.set (atA A) (f (A.getD (atA A) ⟨[], ⟨#[]⟩⟩)) else A ++ [f ⟨[], ⟨#[]⟩⟩]
def appS (x : ByteArray) (y : WSeg) : WSeg := ⟨y.T ++ [x], ⟨#[]⟩⟩
def torS (q : ByteArray) (y : WSeg) : WSeg := ⟨y.T, q⟩
def appA (A : List WSeg) (x : ByteArray) : List WSeg := putA A (appS x)
def torA (A : List WSeg) (q : ByteArray) : List WSeg := putA A (torS q)
theorem bempty {q : ByteArray} (h : q.size = 0) : q = ⟨#[]⟩ := by apply bytes_eq; apply List.length_eq_zero_iff.1; rw [list_len]; exact h
theorem at_lt {A : List WSeg} (h : atA A < A.length) : ∃ y, A[atA A]? = some y ∧ atA A + 1 = A.length ∧ y.q = ⟨#[]⟩ ∧ y.b.size < 256 := by
  unfold atA at h ⊢
  cases hl : A.getLast? with
  | none => rw [List.getLast?_eq_none_iff] at hl; subst hl; simp at h
  | some y =>
    rw [hl] at h
    dsimp only at h ⊢
    by_cases hf : fullS y = true
    · rw [if_pos hf] at h; omega
    · have hne : A ≠ [] := by intro e; subst e; simp at hl
      have h0 : 0 < A.length := List.length_pos_iff.2 hne
      have e1 : (if fullS y = true then A.length else A.length - 1) = A.length - 1 := if_neg hf
      rw [e1]
      refine ⟨y, ?_, by omega, ?_, ?_⟩
      · rw [List.getLast?_eq_getElem?] at hl; exact hl
      · exact bempty (by unfold fullS at hf; rw [Bool.or_eq_true, decide_eq_true_iff, decide_eq_true_iff] at hf; omega)
      · unfold fullS at hf; rw [Bool.or_eq_true, decide_eq_true_iff, decide_eq_true_iff] at hf; omega
theorem at_le (A : List WSeg) : atA A ≤ A.length := by unfold atA; split <;> (try split) <;> omega
theorem putA_get (A : List WSeg) (f : WSeg → WSeg) (k : Nat) : (putA A f)[k]? = if k = atA A then some (f ((A[atA A]?).getD ⟨[], ⟨#[]⟩⟩)) else A[k]? := by
  unfold putA
  have hle := at_le A
  by_cases h : atA A < A.length
  · rw [if_pos h, List.getElem?_set]
    by_cases hk : k = atA A
    · subst hk; rw [if_pos rfl, if_pos h, if_pos rfl, List.getD_eq_getElem?_getD]
    · rw [if_neg (fun e => hk e.symm), if_neg hk]
  · rw [if_neg h]
    have e : atA A = A.length := by omega
    rw [e]
    by_cases hk : k = A.length
    · subst hk; rw [if_pos rfl, List.getElem?_append_right (Nat.le_refl _)]; simp
    · rw [if_neg hk]
      by_cases hlt : k < A.length
      · rw [List.getElem?_append_left hlt]
      · rw [List.getElem?_eq_none (by simp; omega), List.getElem?_eq_none (by omega)]
theorem putA_len (A : List WSeg) (f : WSeg → WSeg) : (putA A f).length = if atA A < A.length then A.length else A.length + 1 := by
  unfold putA; split <;> simp
theorem putA_mem {A : List WSeg} {f : WSeg → WSeg} {z : WSeg} (h : z ∈ putA A f) : z ∈ A ∨ z = f ((A[atA A]?).getD ⟨[], ⟨#[]⟩⟩) := by
  obtain ⟨k, hk⟩ := List.getElem?_of_mem h
  rw [putA_get] at hk
  split at hk
  · cases hk; exact .inr rfl
  · exact .inl (List.mem_of_getElem? hk)
theorem at_none {A : List WSeg} (h : ¬ atA A < A.length) : (A[atA A]?).getD ⟨[], ⟨#[]⟩⟩ = ⟨[], ⟨#[]⟩⟩ := by rw [List.getElem?_eq_none (by omega)]; rfl
theorem at_seg (A : List WSeg) : ∃ y, (A[atA A]?).getD ⟨[], ⟨#[]⟩⟩ = y ∧ y.q = ⟨#[]⟩ ∧ ((A[atA A]? = some y ∧ atA A + 1 = A.length) ∨ (y = ⟨[], ⟨#[]⟩⟩ ∧ atA A = A.length)) := by
  by_cases h : atA A < A.length
  · obtain ⟨y, h1, h2, h3, -⟩ := at_lt h
    exact ⟨y, by rw [h1]; rfl, h3, .inl ⟨h1, h2⟩⟩
  · exact ⟨_, at_none h, rfl, .inr ⟨rfl, by have := at_le A; omega⟩⟩
def OkA (A : List WSeg) : Prop := ∀ y ∈ A, SegOk y
theorem bapp_nil (a : ByteArray) : a ++ (⟨#[]⟩ : ByteArray) = a := by apply bytes_eq; rw [app_list]; simp
theorem segOk_whole {T : List ByteArray} (h : ∀ x ∈ T, x.size ≤ 65536) : SegOk ⟨T, ⟨#[]⟩⟩ := ⟨h, ⟨#[]⟩, by decide, List.nil_prefix, by have := frameB_pos ⟨#[]⟩; show 0 < _; omega⟩
theorem OkA.at {A : List WSeg} (h : OkA A) : ∀ x ∈ ((A[atA A]?).getD ⟨[], ⟨#[]⟩⟩).T, x.size ≤ 65536 := by
  cases hA : A[atA A]? with
  | none => intro x hx; simp at hx
  | some y => exact (h y (List.mem_of_getElem? hA)).1
theorem OkA.app {A : List WSeg} (h : OkA A) {x : ByteArray} (hx : x.size ≤ 65536) : OkA (appA A x) := fun z hz => by
  rcases putA_mem hz with h1 | rfl
  · exact h z h1
  · exact segOk_whole fun t ht => by
      rcases List.mem_append.1 ht with h2 | h2
      · exact h.at t h2
      · simp at h2; subst h2; exact hx
theorem OkA.tor {A : List WSeg} (h : OkA A) {x q : ByteArray} (hx : x.size ≤ 65536) (hq : q.data.toList <+: (frameB x).data.toList) (hl : q.size < (frameB x).size) : OkA (torA A q) := fun z hz => by
  rcases putA_mem hz with h1 | rfl
  · exact h z h1
  · exact ⟨h.at, x, hx, hq, hl⟩
theorem txt_put {A : List WSeg} {f : WSeg → WSeg} {m : List ByteArray} (hf : ∀ y, (f y).T = y.T ++ m) : txtA (putA A f) = txtA A ++ m := by
  unfold txtA putA
  by_cases h : atA A < A.length
  · obtain ⟨y, h1, h2, -, -⟩ := at_lt h
    rw [if_pos h]
    obtain ⟨hi, e⟩ := List.getElem?_eq_some_iff.1 h1
    have e1 : A = A.take (atA A) ++ [y] := by
      have := List.take_append_drop (atA A) A
      rw [List.drop_eq_getElem_cons hi, e, List.drop_eq_nil_of_le (by omega)] at this
      exact this.symm
    have hl : (A.take (atA A)).length = atA A := by rw [List.length_take]; omega
    have e2 : A.set (atA A) (f (A.getD (atA A) ⟨[], ⟨#[]⟩⟩)) = A.take (atA A) ++ [f y] := by
      rw [List.getD_eq_getElem?_getD, h1]
      show A.set (atA A) (f y) = _
      rw [List.set_eq_take_append_cons_drop, if_pos hi, List.drop_eq_nil_of_le (by omega)]
    rw [e2]
    generalize hg : A.take (atA A) = B at e1
    rw [e1]
    simp [hf, List.append_assoc]
  · rw [if_neg h]; simp [hf]
theorem txt_app (A : List WSeg) (x : ByteArray) : txtA (appA A x) = txtA A ++ [x] := txt_put fun y => rfl
theorem txt_tor (A : List WSeg) (q : ByteArray) : txtA (torA A q) = txtA A := by
  have h : txtA (putA A (torS q)) = txtA A ++ [] := txt_put fun y => (List.append_nil _).symm
  rw [List.append_nil] at h; exact h
theorem txt_run (xs : List ByteArray) (A : List WSeg) : txtA (xs.foldl appA A) = txtA A ++ xs := by
  induction xs generalizing A with
  | nil => simp
  | cons x xs ih => rw [List.foldl_cons, ih, txt_app, List.append_assoc]; rfl
theorem OkA.run {A : List WSeg} (h : OkA A) {xs : List ByteArray} (hx : ∀ x ∈ xs, x.size ≤ 65536) : OkA (xs.foldl appA A) := by
  induction xs generalizing A with
  | nil => exact h
  | cons x xs ih => exact ih (h.app (hx x (List.mem_cons_self ..))) (fun z hz => hx z (List.mem_cons_of_mem _ hz))
/-- The bytes of the k-th. -/
def bytA (A : List WSeg) (k : Nat) : List UInt8 := ((A[k]?).map fun y => y.b.data.toList).getD []
theorem byt_app (A : List WSeg) (x : ByteArray) (k : Nat) : bytA (appA A x) k = if k = atA A then bytA A k ++ (frameB x).data.toList else bytA A k := by
  unfold bytA appA
  rw [putA_get]
  by_cases hk : k = atA A
  · subst hk
    rw [if_pos rfl, if_pos rfl]
    obtain ⟨y, h1, h2, h3⟩ := at_seg A
    rw [h1]
    show (appS x y).b.data.toList = _
    unfold appS WSeg.b
    rw [bapp_nil, catF_snoc, app_list]
    rcases h3 with ⟨h3, -⟩ | ⟨h3, h4⟩
    · rw [h3]; show _ = y.b.data.toList ++ _; unfold WSeg.b; rw [h2, bapp_nil]
    · rw [List.getElem?_eq_none (by omega), h3]; rfl
  · rw [if_neg hk, if_neg hk]
theorem byt_tor (A : List WSeg) (q : ByteArray) (k : Nat) : bytA (torA A q) k = if k = atA A then bytA A k ++ q.data.toList else bytA A k := by
  unfold bytA torA
  rw [putA_get]
  by_cases hk : k = atA A
  · subst hk
    rw [if_pos rfl, if_pos rfl]
    obtain ⟨y, h1, h2, h3⟩ := at_seg A
    rw [h1]
    show (torS q y).b.data.toList = _
    unfold torS WSeg.b
    rw [app_list]
    rcases h3 with ⟨h3, -⟩ | ⟨h3, h4⟩
    · rw [h3]; show _ = y.b.data.toList ++ _; unfold WSeg.b; rw [h2, bapp_nil]
    · rw [List.getElem?_eq_none (by omega), h3]; rfl
  · rw [if_neg hk, if_neg hk]
theorem some_put (A : List WSeg) (f : WSeg → WSeg) (k : Nat) : ((putA A f)[k]?).isSome = (decide (k = atA A) || (A[k]?).isSome) := by
  rw [putA_get]; by_cases hk : k = atA A <;> simp [hk]
/-- A disk's files: the k-th has the bytes of A's, is safe as far as C's bytes go, and stays if C has it. -/
def flW (first : Int) (A C : List WSeg) (k : Int) : Option FileM := if first ≤ k then (if (A[(k - first).toNat]?).isSome = true then some (bytA A (k - first).toNat, ((bytA C (k - first).toNat).length : Int), (C[(k - first).toNat]?).isSome) else none) else none
/-- A disk that has just such files. -/
def OnD (fm : Int → Option FileM) (first : Int) (A C : List WSeg) : Prop := ∀ k, fm k = flW first A C k
theorem OnD.get {fm : Int → Option FileM} {first : Int} {A C : List WSeg} (h : OnD fm first A C) (i : Nat) : fm (first + (i : Int)) = if (A[i]?).isSome = true then some (bytA A i, ((bytA C i).length : Int), (C[i]?).isSome) else none := by
  rw [h, flW, if_pos (by omega), show (first + (i : Int) - first).toNat = i by omega]
def hereA (first : Int) (A : List WSeg) : Int := first + (atA A : Int)
theorem OnD.getF {fm : Int → Option FileM} {first : Int} {A C : List WSeg} (h : OnD fm first A C) (hC : ∀ i : Nat, (C[i]?).isSome = true → (A[i]?).isSome = true) (i : Nat) : getF fm (first + (i : Int)) = (bytA A i, ((bytA C i).length : Int), (C[i]?).isSome) := by
  unfold Go.Proofs.YtfiplhnplmadmaaDoor.getF; rw [h.get]
  by_cases hi : (A[i]?).isSome = true
  · rw [if_pos hi]; rfl
  · rw [if_neg hi]
    have h1 : A[i]? = none := by simpa using hi
    have h2 : C[i]? = none := by cases hc : C[i]? with
      | none => rfl
      | some y => exact absurd (hC i (by rw [hc]; rfl)) hi
    unfold bytA; rw [h1, h2]; rfl
theorem OnD.put {fm : Int → Option FileM} {first : Int} {A C : List WSeg} (h : OnD fm first A C) {f : WSeg → WSeg} {t : List UInt8} (hC : ∀ i : Nat, (C[i]?).isSome = true → (A[i]?).isSome = true) (hf : ∀ k, bytA (putA A f) k = if k = atA A then bytA A k ++ t else bytA A k) :
    OnD (putF fm (hereA first A) ((Go.Proofs.YtfiplhnplmadmaaDoor.getF fm (hereA first A)).1 ++ t, (Go.Proofs.YtfiplhnplmadmaaDoor.getF fm (hereA first A)).2)) first (putA A f) C := fun k => by
  unfold putF hereA
  rw [h.getF hC]
  by_cases hk : k = first + (atA A : Int)
  · rw [if_pos hk, flW, if_pos (by omega), show (k - first).toNat = atA A by omega, some_put, if_pos (by simp), hf, if_pos rfl]
  · rw [if_neg hk, h]
    unfold flW
    by_cases hl : first ≤ k
    · have hne : ¬ (k - first).toNat = atA A := by omega
      have e1 : ((putA A f)[(k - first).toNat]?).isSome = (A[(k - first).toNat]?).isSome := by rw [some_put]; simp [hne]
      have e2 : bytA (putA A f) (k - first).toNat = bytA A (k - first).toNat := by rw [hf, if_neg hne]
      rw [if_pos hl, if_pos hl, e1, e2]
    · rw [if_neg hl, if_neg hl]
/-- The pieces of what is appended. -/
def pcsA (first : Int) : List WSeg → List ByteArray → List PcT
  | _, [] => []
  | A, x :: r => (hereA first A, ((frameB x).size : Int)) :: pcsA first (appA A x) r
theorem pcs_snoc (first : Int) (xs : List ByteArray) (x : ByteArray) (A : List WSeg) : pcsA first A (xs ++ [x]) = pcsA first A xs ++ [(hereA first (xs.foldl appA A), ((frameB x).size : Int))] := by
  induction xs generalizing A with
  | nil => rfl
  | cons y r ih => simp only [List.cons_append, pcsA, ih, List.foldl_cons]
/-- A disk on which xs came behind what was safe. -/
structure WSt (s : DkS) (first : Int) (A : List WSeg) (xs : List ByteArray) : Prop where
  on : OnD s.fm first (xs.foldl appA A) A
  ps : s.ps = pcsA first A xs
  ok : OkA A
  tx : ∀ x ∈ xs, x.size ≤ 65536
theorem some_run (xs : List ByteArray) (A : List WSeg) (i : Nat) (h : (A[i]?).isSome = true) : ((xs.foldl appA A)[i]?).isSome = true := by
  induction xs generalizing A with
  | nil => exact h
  | cons x r ih => exact ih _ (by unfold appA; rw [some_put, h]; simp)
theorem byt_run (xs : List ByteArray) (A : List WSeg) (i : Nat) : bytA A i <+: bytA (xs.foldl appA A) i := by
  induction xs generalizing A with
  | nil => exact List.prefix_refl _
  | cons x r ih =>
    refine List.IsPrefix.trans ?_ (ih (appA A x))
    rw [byt_app]; split
    · exact List.prefix_append _ _
    · exact List.prefix_refl _
theorem fapp_snoc (xs : List ByteArray) (x : ByteArray) (A : List WSeg) : (xs ++ [x]).foldl appA A = appA (xs.foldl appA A) x := by rw [List.foldl_append]; rfl
theorem WSt.write {s : DkS} {first : Int} {A : List WSeg} {xs : List ByteArray} (h : WSt s first A xs) {x : ByteArray} (hx : x.size ≤ 65536) (hn : wrE (hereA first (xs.foldl appA A)) = 0) : WSt (wrS s (hereA first (xs.foldl appA A)) (frameB x)) first A (xs ++ [x]) := by
  unfold wrS; rw [if_pos hn]
  refine ⟨?_, ?_, h.ok, fun z hz => ?_⟩
  · rw [fapp_snoc]
    exact h.on.put (fun i hi => some_run xs A i hi) (fun k => byt_app _ x k)
  · show s.ps ++ _ = _
    rw [h.ps, pcs_snoc]
  · rcases List.mem_append.1 hz with hz | hz
    · exact h.tx z hz
    · simp at hz; subst hz; exact hx
/-- What a crash leaves: the first j texts, and what is torn of the next one. -/
theorem cr_dead (ps : List PcT) (X : Int × Bool × (Int → Option FileM)) (h0 : X.1 = 0) (hp : ∀ p ∈ ps, 0 < p.2) : (ps.foldl crStep X).2.2 = X.2.2 := by
  induction ps generalizing X with
  | nil => rfl
  | cons p r ih =>
    have h1 := hp p (List.mem_cons_self ..)
    rw [List.foldl_cons, ih]
    · unfold crStep; rw [h0, if_pos h1]; simp; omega
    · unfold crStep; rw [h0, if_pos h1]; rfl
    · exact fun q hq => hp q (List.mem_cons_of_mem _ hq)
theorem pcs_pos (first : Int) (xs : List ByteArray) (A : List WSeg) : ∀ p ∈ pcsA first A xs, 0 < p.2 := by
  induction xs generalizing A with
  | nil => intro p hp; cases hp
  | cons x r ih =>
    intro p hp
    rcases List.mem_cons.1 hp with rfl | hp
    · have := frameB_pos x; show (0 : Int) < ((frameB x).size : Int); omega
    · exact ih _ p hp
/-- On a disk whose files have A's bytes, C's bytes are safe. -/
def SafeD (fm : Int → Option FileM) (first : Int) (A C : List WSeg) : Prop := OnD fm first A C ∧ (∀ i : Nat, (C[i]?).isSome = true → (A[i]?).isSome = true) ∧ ∀ i : Nat, bytA C i <+: bytA A i
theorem SafeD.step {fm : Int → Option FileM} {first : Int} {A C : List WSeg} (h : SafeD fm first A C) {f : WSeg → WSeg} {t : List UInt8} (hf : ∀ k, bytA (putA C f) k = if k = atA C then bytA C k ++ t else bytA C k) (ha : (A[atA C]?).isSome = true) (hp : bytA C (atA C) ++ t <+: bytA A (atA C)) {kp : Int} (hk : kp = (t.length : Int)) :
    SafeD (putF fm (hereA first C) ((getF fm (hereA first C)).1, (getF fm (hereA first C)).2.1 + kp, true)) first A (putA C f) := by
  obtain ⟨h1, h2, h3⟩ := h
  refine ⟨fun k => ?_, fun i hi => ?_, fun i => ?_⟩
  · unfold putF hereA
    rw [h1.getF h2]
    by_cases hk2 : k = first + (atA C : Int)
    · rw [if_pos hk2, flW, if_pos (by omega), show (k - first).toNat = atA C by omega, if_pos ha, some_put, hf, if_pos rfl]
      simp [List.length_append, hk]
    · rw [if_neg hk2, h1]
      unfold flW
      by_cases hl : first ≤ k
      · have hne : ¬ (k - first).toNat = atA C := by omega
        have e1 : ((putA C f)[(k - first).toNat]?).isSome = (C[(k - first).toNat]?).isSome := by rw [some_put]; simp [hne]
        have e2 : bytA (putA C f) (k - first).toNat = bytA C (k - first).toNat := by rw [hf, if_neg hne]
        rw [if_pos hl, if_pos hl, e1, e2]
      · rw [if_neg hl, if_neg hl]
  · rw [some_put] at hi
    by_cases e : i = atA C
    · rw [e]; exact ha
    · simp [e] at hi; exact h2 i (by simpa using hi)
  · rw [hf]; split
    · rename_i e; rw [e]; exact hp
    · exact h3 i
theorem ext_take (t : ByteArray) (j : Nat) : (t.extract 0 j).data.toList = t.data.toList.take j := by rw [ext_list]; rfl
theorem crash_run {first : Int} {F : List WSeg} : ∀ (xs : List ByteArray) (C : List WSeg) (X : Int × Bool × (Int → Option FileM)), 0 ≤ X.1 → X.2.1 = true → SafeD X.2.2 first F C → OkA C → (∀ x ∈ xs, x.size ≤ 65536) → (∀ i : Nat, (F[i]?).isSome = ((xs.foldl appA C)[i]?).isSome ∧ bytA F i = bytA (xs.foldl appA C) i) →
    ∃ (j : Nat) (E : List WSeg), j ≤ xs.length ∧ txtA E = txtA C ++ xs.take j ∧ OkA E ∧ SafeD ((pcsA first C xs).foldl crStep X).2.2 first F E ∧ E.length ≤ C.length + j + 1
  | [], C, X, hl, hw, hS, hO, hx, hF => ⟨0, C, Nat.le_refl _, by simp, hO, hS, by omega⟩
  | x :: r, C, X, hl, hw, hS, hO, hx, hF => by
    have hxs := hx x (List.mem_cons_self ..)
    have hpos := frameB_pos x
    have hat : (F[atA C]?).isSome = true := by
      rw [(hF (atA C)).1, List.foldl_cons]
      exact some_run r _ _ (by unfold appA; rw [some_put]; simp)
    have hpre : bytA (appA C x) (atA C) <+: bytA F (atA C) := by
      rw [(hF (atA C)).2, List.foldl_cons]; exact byt_run r _ _
    rw [byt_app, if_pos rfl] at hpre
    have hfl : (frameB x).data.toList.length = (frameB x).size := list_len _
    by_cases hlt : X.1 < ((frameB x).size : Int)
    · have hdead : ((pcsA first C (x :: r)).foldl crStep X).2.2 = (crStep X (hereA first C, ((frameB x).size : Int))).2.2 := by
        show ((pcsA first (appA C x) r).foldl crStep (crStep X (hereA first C, ((frameB x).size : Int)))).2.2 = _
        refine cr_dead _ _ ?_ (pcs_pos _ _ _)
        unfold crStep; show X.1 - (if X.1 < ((frameB x).size : Int) then X.1 else _) = 0
        rw [if_pos hlt]; omega
      rw [hdead]
      have hstep : (crStep X (hereA first C, ((frameB x).size : Int))).2.2 = if 0 < X.1 then putF X.2.2 (hereA first C) ((getF X.2.2 (hereA first C)).1, (getF X.2.2 (hereA first C)).2.1 + X.1, true) else X.2.2 := by
        unfold crStep
        simp only [if_pos hlt]
        by_cases h0 : 0 < X.1
        · rw [if_pos (.inl h0), if_pos h0]
        · rw [if_neg (by rintro (h | ⟨h, -⟩); exact h0 h; have h : ((frameB x).size : Int) = 0 := h; omega), if_neg h0]
      rw [hstep]
      by_cases h0 : 0 < X.1
      · rw [if_pos h0]
        have hq : (((frameB x).extract 0 X.1.toNat).data.toList) <+: (frameB x).data.toList := by rw [ext_take]; exact List.take_prefix _ _
        have hql : ((frameB x).extract 0 X.1.toNat).data.toList.length = X.1.toNat := by rw [ext_take, List.length_take]; omega
        refine ⟨0, torA C ((frameB x).extract 0 X.1.toNat), Nat.zero_le _, by rw [txt_tor]; simp, hO.tor hxs hq (by rw [← list_len, hql]; omega), hS.step (fun k => byt_tor C _ k) hat (List.IsPrefix.trans ((List.prefix_append_right_inj _).2 hq) hpre) (by rw [hql]; omega), ?_⟩
        unfold torA; rw [putA_len]; split <;> omega
      · rw [if_neg h0]
        exact ⟨0, C, Nat.zero_le _, by simp, hO, hS, by omega⟩
    · have hstep : crStep X (hereA first C, ((frameB x).size : Int)) = (X.1 - ((frameB x).size : Int), true, putF X.2.2 (hereA first C) ((getF X.2.2 (hereA first C)).1, (getF X.2.2 (hereA first C)).2.1 + ((frameB x).size : Int), true)) := by
        unfold crStep
        simp only [if_neg hlt, hw]
        rw [if_pos (.inl (by omega))]; simp
      obtain ⟨j, E, h1, h2, h3, h4, h5⟩ := crash_run r (appA C x) (crStep X (hereA first C, ((frameB x).size : Int))) (by rw [hstep]; show 0 ≤ X.1 - ((frameB x).size : Int); omega) (by rw [hstep]) (by rw [hstep]; exact hS.step (fun k => byt_app C x k) hat hpre (by rw [hfl])) (hO.app hxs) (fun z hz => hx z (List.mem_cons_of_mem _ hz)) (fun i => hF i)
      have hlen : (appA C x).length ≤ C.length + 1 := by unfold appA; rw [putA_len]; split <;> omega
      exact ⟨j + 1, E, by simp; omega, by rw [h2, txt_app, List.append_assoc]; rfl, h3, h4, by omega⟩
theorem WSt.crash {s : DkS} {first : Int} {A : List WSeg} {xs : List ByteArray} (h : WSt s first A xs) (n : Int) :
    ∃ (j : Nat) (E : List WSeg), j ≤ xs.length ∧ txtA E = txtA A ++ xs.take j ∧ E.length ≤ A.length + j + 1 ∧ WSt (crS s n) first E [] := by
  obtain ⟨j, E, h1, h2, h3, ⟨h4, h5, h6⟩, h7⟩ := crash_run (first := first) (F := xs.foldl appA A) xs A (mx0 n, true, s.fm) (mx0_nn n) rfl ⟨h.on, fun i hi => some_run xs A i hi, fun i => byt_run xs A i⟩ h.ok h.tx (fun i => ⟨rfl, rfl⟩)
  refine ⟨j, E, h1, h2, h7, ⟨fun k => ?_, rfl, h3, fun x hx => by cases hx⟩⟩
  show trF (crRun n s.fm s.ps).2.2 k = flW first E E k
  have e : (crRun n s.fm s.ps).2.2 = ((pcsA first A xs).foldl crStep (mx0 n, true, s.fm)).2.2 := by rw [h.ps]; rfl
  rw [e]; unfold trF; rw [h4 k]; unfold flW
  by_cases hl : first ≤ k
  · rw [if_pos hl, if_pos hl]
    generalize (k - first).toNat = i at *
    by_cases hE : (E[i]?).isSome = true
    · rw [if_pos (h5 i hE), if_pos hE]
      show trM _ = _
      unfold trM
      simp only [hE, if_true]
      have := List.prefix_iff_eq_take.1 (h6 i)
      rw [show ((bytA E i).length : Int).toNat = (bytA E i).length by omega, ← this]
    · rw [if_neg hE]
      split
      · show trM _ = none
        unfold trM; simp [hE]
      · rfl
  · rw [if_neg hl, if_neg hl]; rfl
theorem WSt.sync {s : DkS} {first : Int} {A : List WSeg} {xs : List ByteArray} (h : WSt s first A xs) : WSt (synS s) first (xs.foldl appA A) [] := by
  have hpc : ∀ (xs : List ByteArray) (A : List WSeg) (i : Nat), ((xs.foldl appA A)[i]?).isSome = ((A[i]?).isSome || decide (∃ p ∈ pcsA first A xs, p.1 = first + (i : Int))) ∧ ((¬ ∃ p ∈ pcsA first A xs, p.1 = first + (i : Int)) → bytA (xs.foldl appA A) i = bytA A i) := by
    intro xs
    induction xs with
    | nil => intro A i; simp [pcsA]
    | cons x r ih =>
      intro A i
      obtain ⟨i1, i2⟩ := ih (appA A x) i
      rw [List.foldl_cons]
      have hm : (∃ p ∈ pcsA first A (x :: r), p.1 = first + (i : Int)) ↔ (i = atA A ∨ ∃ p ∈ pcsA first (appA A x) r, p.1 = first + (i : Int)) := by
        constructor
        · rintro ⟨p, hp, he⟩
          rcases List.mem_cons.1 hp with rfl | hp
          · have he : first + (atA A : Int) = first + (i : Int) := he
            exact .inl (by omega)
          · exact .inr ⟨p, hp, he⟩
        · rintro (rfl | ⟨p, hp, he⟩)
          · exact ⟨_, List.mem_cons_self .., rfl⟩
          · exact ⟨p, List.mem_cons_of_mem _ hp, he⟩
      refine ⟨?_, fun hn => ?_⟩
      · have hs : ((appA A x)[i]?).isSome = (decide (i = atA A) || (A[i]?).isSome) := some_put A (appS x) i
        rw [i1, Bool.eq_iff_iff, Bool.or_eq_true, Bool.or_eq_true, decide_eq_true_iff, decide_eq_true_iff, hm, hs, Bool.or_eq_true, decide_eq_true_iff]
        constructor
        · rintro ((k | k) | k)
          · exact .inr (.inl k)
          · exact .inl k
          · exact .inr (.inr k)
        · rintro (k | k | k)
          · exact .inl (.inr k)
          · exact .inl (.inl k)
          · exact .inr k
      · rw [hm] at hn
        rw [i2 (fun hx => hn (.inr hx)), byt_app, if_neg (fun e => hn (.inl e))]
  have hpl : ∀ (xs : List ByteArray) (A : List WSeg), ∀ p ∈ pcsA first A xs, first ≤ p.1 := by
    intro xs
    induction xs with
    | nil => intro A p hp; cases hp
    | cons x r ih => intro A p hp; rcases List.mem_cons.1 hp with rfl | hp; show first ≤ first + (atA A : Int); omega; exact ih _ p hp
  refine ⟨fun k => ?_, rfl, h.ok.run h.tx, fun x hx => by cases hx⟩
  obtain ⟨g1, g2, g3⟩ := syn_get s.ps s.fm k
  show synF s.fm s.ps k = flW first (xs.foldl appA A) (xs.foldl appA A) k
  rw [h.ps] at g1 g2 g3 ⊢
  have hk := h.on k
  by_cases hl : first ≤ k
  · obtain ⟨i, rfl⟩ : ∃ i : Nat, k = first + (i : Int) := ⟨(k - first).toNat, by omega⟩
    obtain ⟨c1, c2⟩ := hpc xs A i
    unfold flW; rw [if_pos hl, show (first + (i : Int) - first).toNat = i by omega]
    rw [flW, if_pos hl, show (first + (i : Int) - first).toNat = i by omega] at hk
    by_cases hp : ∃ p ∈ pcsA first A xs, p.1 = first + (i : Int)
    · have hsome : ((xs.foldl appA A)[i]?).isSome = true := by rw [c1]; simp [hp]
      have e2 := g2 hp
      have hg : getF s.fm (first + (i : Int)) = (bytA (xs.foldl appA A) i, ((bytA A i).length : Int), (A[i]?).isSome) := by unfold getF; rw [hk, if_pos hsome]; rfl
      rw [hg] at e2 g1
      rw [if_pos hsome]
      have hs : (synF s.fm (pcsA first A xs) (first + (i : Int))).isSome = true := by
        cases hq : synF s.fm (pcsA first A xs) (first + (i : Int)) with
        | some m => rfl
        | none => unfold getF at e2; rw [hq] at e2; simp [mz] at e2
      obtain ⟨m, hm⟩ := Option.isSome_iff_exists.1 hs
      unfold getF at g1 e2; rw [hm] at g1 e2
      rw [hm, hsome]
      obtain ⟨m1, m2⟩ := m
      simp only [Option.getD_some] at g1 e2
      rw [g1, e2]
    · obtain ⟨e2, e3⟩ := g3 hp
      rw [e3, hk]
      by_cases hsome : ((xs.foldl appA A)[i]?).isSome = true
      · rw [if_pos hsome, if_pos hsome]
        have hA : (A[i]?).isSome = true := by rw [c1] at hsome; simpa [hp] using hsome
        rw [hsome, hA, c2 hp]
      · rw [if_neg hsome, if_neg hsome]
  · have hp : ¬ ∃ p ∈ pcsA first A xs, p.1 = k := by rintro ⟨p, hp, rfl⟩; exact hl (hpl xs A p hp)
    rw [(g3 hp).2, hk]; unfold flW; rw [if_neg hl, if_neg hl]
end Go.Proofs.YtfiplhnplmadmaaDoor

/- A range over a function that may be left, whose iterator turns what the caller told it of (Qp). Conditions: none. -/
namespace Go.Proofs.YtfiplhnplmadmaaDoor
open Go.RowKit Go.Shelf
set_option linter.unusedVariables false

/-- What a block that is neither cells nor a map leaves as it was. -/
def ShutQ {β : Type} (B : Nat) (I : β → World → Prop) : Prop :=
  ∀ s W W' row, I s W → W.grownBy W' row → (∀ r, row = some r → B ≤ r ∧ ∃ o : Obj, W.heap[r]? = some o ∧ o.isCells = false ∧ o.isWalk = false) → I s W'
/-- It yields the first of such a list, up to whoever stops it. -/
def SeqQ {α : Type} (P : Program) (gf : Nat) (lb : Array Value) (encs : α → Array Value) (Kp Qp : World → World → Prop) (ks : List α → Prop) (w : World) : Prop :=
  ∀ (l : Nat) (J Jx : List α → World → Prop) (W : World), Below w.heap.size w W → w.heap.size + 2 ≤ W.heap.size →
    (∀ pre A B, J pre A → A.grownBy B none → J pre B) → (∀ pre A B, Jx pre A → A.grownBy B none → Jx pre B) → (∀ pre A B, J pre A → Qp A B → J pre B) →
    (∀ pre x A ys, J pre A → ks ys → (pre ++ [x]) <+: ys → YieldAt Fence.wide 1 P l (encs x) A fun e B => (e = .returned (.bool true) ∧ J (pre ++ [x]) B ∧ Kp A B) ∨ (e = .returned (.bool false) ∧ Jx (pre ++ [x]) B)) →
    J [] W → CallsIn Fence.wide 2 P gf (#[.func (.yield l) #[] #[]] ++ lb) W fun e B => (∃ v, e = .returned v) ∧ ((∃ ys, ks ys ∧ J ys B) ∨ ∃ ys pre, ks ys ∧ pre <+: ys ∧ Jx pre B)
theorem rf_q {α : Type} {P : Program} {n : Nat} {g : Operand} {ps : Array Tmp} {assign body : Code} {Q : Exit → Act → World → Prop} {a : Act} {w : World} {gf : Nat} {lb : Array Value} (hg : a.eval g = .func (.func gf) #[] lb)
    (eg : ∀ args w, (callFunc gf args).run P w = .ok (.enter gf args) w) {encs : α → Array Value} {Kp Qp : World → World → Prop} {ks : List α → Prop} (hseq : SeqQ P gf lb encs Kp Qp ks w) (hps : ∀ x, (encs x).size = ps.size)
    (hKt : ∀ {A B C : World}, Kp A B → Kp B C → Kp A C) (hKb : ∀ (W : World) (o o' : Obj), W.heap[w.heap.size + 1]? = some o → o.isCells = false → o.isWalk = false → Kp W (W.putObj (w.heap.size + 1) o'))
    (hQ : ∀ (A B : World), Qp A B → ∀ (k : Nat) (o : Obj), A.heap[k]? = some o → o.isCells = false → o.isWalk = false → B.heap[k]? = some o)
    (I : List α → World → Prop) (Ix : Code → List α → World → Prop) (hI : ShutQ w.heap.size I) (hIQ : ∀ pre A B, I pre A → Qp A B → I pre B) (hIx : ∀ c, ShutQ w.heap.size (Ix c)) (h0 : I [] w) (Ax : α → Act → World → Prop) (hAx : ∀ x a', ShutQ w.heap.size (fun (_ : Unit) W => Ax x a' W))
    (hassign : ∀ (l : Nat) (pre : List α) (x : α) (W : World) (K : Act → World → Prop), w.heap.size + 1 < W.heap.size → I pre W → (∀ a' W', KeepsFrom w.heap.size W W' → Kp W W' → I pre W' → Ax x a' W' → K a' W') →
      assign.wpIn (Fence.wide.inRound l) 1 P (Exit.then K (fun _ _ _ => False)) { tmps := (ps.zip (encs x)).foldl (fun t (p, v) => t.setIfInBounds p v) a.tmps, defers := [] } W)
    (hbody : ∀ (l : Nat) (pre : List α) (x : α) (a' : Act) (W : World), w.heap.size + 1 = l → (∃ r, W.heap[l]? = some (.loop r)) → I pre W → Ax x a' W → (∃ ys, ks ys ∧ (pre ++ [x]) <+: ys) → body.wpIn (Fence.wide.inRound l) 1 P (ownPostG w.heap.size Kp I Ix (pre ++ [x]) W) a' W)
    (hdone : ∀ (D : Nat) (ys : List α) (W : World), w.heap.size ≤ D → ks ys → I ys W → W.heap[D]? = some (.deferred (some [])) → Q .normal { a with defers := { target := .collected D, args := #[] } :: a.defers } W)
    (hstop : ∀ (D : Nat) (c : Code) (pre ys : List α) (W : World), w.heap.size ≤ D → ks ys → pre <+: ys → Ix c pre W → W.heap[D]? = some (.deferred (some [])) → c.wpIn Fence.wide n P Q { a with defers := { target := .collected D, args := #[] } :: a.defers } W) :
    (Code.rangeFunc g ps assign body).wpIn Fence.wide n P Q a w := by
  refine wpIn_rangeFunc fun fn hfn => ?_
  obtain ⟨rec, hrec⟩ : ∃ rec : LoopState → Option Code → Loop, rec = fun st pe => { state := st, pending := pe, fn := fn, tmps := a.tmps, params := ps, assign := assign, body := body, defers := w.heap.size } := ⟨_, rfl⟩
  obtain ⟨V, hV⟩ : ∃ V, V = (w.alloc (.deferred (some []))).alloc (.loop (rec .ready none)) := ⟨_, rfl⟩
  have vL : V.heap[w.heap.size + 1]? = some (.loop (rec .ready none)) := by rw [hV]; have := World.alloc_heap_new (w.alloc (.deferred (some []))) (.loop (rec .ready none)); rwa [World.size_alloc] at this
  have vD : V.heap[w.heap.size]? = some (.deferred (some [])) := by rw [hV]; exact (Below.heap_alloc _ _ _ (by simp)).trans (World.alloc_heap_new w _)
  have vS : V.heap.size = w.heap.size + 2 := by rw [hV]; simp
  have vI : I [] V := by rw [hV]; exact hI _ _ _ none (hI _ _ _ none h0 (World.grownBy_alloc _ _ _) (fun _ e => nomatch e)) (World.grownBy_alloc _ _ _) (fun _ e => nomatch e)
  have vB : Below w.heap.size w V := by rw [hV]; exact ((Below.refl _ w).alloc (Nat.le_refl _) _).alloc (by simp) _
  refine ⟨w.heap.size + 1, [{ target := .collected w.heap.size, args := #[] }], V, { target := .fn (.func gf) lb, args := #[.func (.yield (w.heap.size + 1)) #[] #[]] }, V, gf,
    #[.func (.yield (w.heap.size + 1)) #[] #[]] ++ lb, V, by rw [hV, hrec]; exact run_enterLoop_outer _ _ _ _ _, by simp only [resolve, hg]; simp [go_sem], (fun f' hf' => by simp [Target.leads] at hf'; subst hf'; trivial), by simp [invoke, go_sem, eg], (fun h => by cases h), ?_⟩
  have put : ∀ {s : List α} {W : World} {r : Loop} (o' : Obj) {I2 : List α → World → Prop}, ShutQ w.heap.size I2 → I2 s W → W.heap[w.heap.size + 1]? = some (.loop r) → I2 s (W.putObj (w.heap.size + 1) o') :=
    fun {s W r} o' {I2} h hs hl => h s W _ (some (w.heap.size + 1)) hs (grownBy_putObj' W _ o') (fun k e => by cases e; exact ⟨Nat.le_succ _, _, hl, rfl, rfl⟩)
  have same0 : ∀ {A B : World}, A.grownBy B none → ∀ {k : Nat} {o : Obj}, A.heap[k]? = some o → B.heap[k]? = some o :=
    fun {A B} hg' {k o} h => (hg'.block _ (Array.getElem?_eq_some_iff.1 h).1 (fun e => nomatch e)).trans h
  refine (callsIn_wide.2 (callsIn_wide.1 (hseq (w.heap.size + 1) (fun pre W => I pre W ∧ W.heap[w.heap.size + 1]? = some (.loop (rec .ready none)) ∧ W.heap[w.heap.size]? = some (.deferred (some [])))
    (fun pre W => ∃ c, Ix c pre W ∧ W.heap[w.heap.size + 1]? = some (.loop (rec .done (some c))) ∧ W.heap[w.heap.size]? = some (.deferred (some []))) V vB (by omega) ?_ ?_ ?_ ?_ ⟨vI, vL, vD⟩))).mono ?_
  · rintro pre A B ⟨h1, h2, h3⟩ hg'
    exact ⟨hI pre A B none h1 hg' (fun r e => nomatch e), same0 hg' h2, same0 hg' h3⟩
  · rintro pre A B ⟨c, h1, h2, h3⟩ hg'
    exact ⟨c, hIx c pre A B none h1 hg' (fun r e => nomatch e), same0 hg' h2, same0 hg' h3⟩
  · rintro pre A B ⟨h1, h2, h3⟩ hq
    exact ⟨hIQ pre A B h1 hq, hQ A B hq _ _ h2 rfl rfl, hQ A B hq _ _ h3 rfl rfl⟩
  · rintro pre x A ys ⟨h1, h2, h3⟩ hks hp
    have hlt0 : w.heap.size + 1 < A.heap.size := (Array.getElem?_eq_some_iff.1 h2).1
    have hy := run_yield (P := P) (args := encs x) h2 (by rw [hrec]; exact hps x)
    rw [hrec] at hy
    refine ⟨fn, _, assign, body, hy, ?_⟩
    refine roundIn_of_wpIn hfn ?_
    refine hassign _ pre x A _ hlt0 h1 fun a' B kf kp h1' hax => ?_
    have b2 := kf.same _ _ (by omega) h2 rfl
    have b3 := kf.same _ _ (Nat.le_refl _) h3 rfl
    have hlt : w.heap.size + 1 < B.heap.size := (Array.getElem?_eq_some_iff.1 b2).1
    refine ⟨_, run_beginRound b2 (by rw [hrec]), ?_⟩
    have c2 : (B.putObj (w.heap.size + 1) (.loop { rec .ready none with state := .busy })).heap[w.heap.size + 1]? = some (.loop { rec .ready none with state := .busy }) := World.putObj_heap_same hlt
    have c3 : (B.putObj (w.heap.size + 1) (.loop { rec .ready none with state := .busy })).heap[w.heap.size]? = some (.deferred (some [])) := (World.putObj_heap_other (by omega)).trans b3
    have hw2 : Kp B (B.putObj (w.heap.size + 1) (.loop { rec .ready none with state := .busy })) := hKb _ _ _ b2 rfl rfl
    have ax2 : Ax x a' (B.putObj (w.heap.size + 1) (.loop { rec .ready none with state := .busy })) := hAx x a' () B _ (some (w.heap.size + 1)) hax (grownBy_putObj' B _ _) (fun k e => by cases e; exact ⟨Nat.le_succ _, _, b2, rfl, rfl⟩)
    refine wpIn_mono (hbody _ pre x a' _ rfl ⟨_, c2⟩ (put _ hI h1' b2) ax2 ⟨ys, hks, hp⟩) ?_
    have fin : ∀ (jump : Option Code) (W3 : World), KeepsFrom w.heap.size (B.putObj (w.heap.size + 1) (.loop { rec .ready none with state := .busy })) W3 →
        (Instr.endRound (w.heap.size + 1) jump).run P W3 = .ok (.bool jump.isNone) (W3.putObj (w.heap.size + 1) (.loop (rec (if jump.isNone then .ready else .done) jump))) ∧
        W3.heap[w.heap.size + 1]? = some (.loop { rec .ready none with state := .busy }) ∧
        (W3.putObj (w.heap.size + 1) (.loop (rec (if jump.isNone then .ready else .done) jump))).heap[w.heap.size + 1]? = some (.loop (rec (if jump.isNone then .ready else .done) jump)) ∧
        (W3.putObj (w.heap.size + 1) (.loop (rec (if jump.isNone then .ready else .done) jump))).heap[w.heap.size]? = some (.deferred (some [])) := fun jump W3 hk3 => by
      have hl3 := hk3.same _ _ (by omega) c2 rfl
      have := run_endRound (P := P) jump hl3
      rw [hrec] at this ⊢
      exact ⟨this, by rw [hrec] at hl3; exact hl3, World.putObj_heap_same (Array.getElem?_eq_some_iff.1 hl3).1, (World.putObj_heap_other (by omega)).trans (hk3.same _ _ (Nat.le_refl _) c3 rfl)⟩
    rintro e a3 W3 hq
    cases e with
    | normal =>
      obtain ⟨hk3, hkp3, hi3⟩ := hq
      obtain ⟨hr, hl3, hl4, hk4⟩ := fin none W3 hk3
      exact ⟨_, _, hr, .inl ⟨rfl, ⟨put _ hI hi3 hl3, hl4, hk4⟩, hKt kp (hKt (hKt hw2 hkp3) (hKb _ _ _ hl3 rfl rfl))⟩⟩
    | ret =>
      obtain ⟨hk3, hi3⟩ := hq
      obtain ⟨hr, hl3, hl4, hk4⟩ := fin (some .ret) W3 hk3
      exact ⟨_, _, hr, .inr ⟨rfl, .ret, put _ (hIx _) hi3 hl3, hl4, hk4⟩⟩
    | exit id =>
      obtain ⟨hk3, hi3⟩ := hq
      obtain ⟨hr, hl3, hl4, hk4⟩ := fin (some (.exit id)) W3 hk3
      exact ⟨_, _, hr, .inr ⟨rfl, .exit id, put _ (hIx _) hi3 hl3, hl4, hk4⟩⟩
    | goto t =>
      obtain ⟨hk3, hi3⟩ := hq
      obtain ⟨hr, hl3, hl4, hk4⟩ := fin (some (.goto t)) W3 hk3
      exact ⟨_, _, hr, .inr ⟨rfl, .goto t, put _ (hIx _) hi3 hl3, hl4, hk4⟩⟩
    | panic ch => exact hq.elim
    | outgrown => exact hq.elim
  · rintro e B ⟨⟨v, rfl⟩, (⟨ys, hks, h1, h2, h3⟩ | ⟨ys, pre, hks, hpre, c, h1, h2, h3⟩)⟩
    · exact ⟨none, _, by have := run_endLoop (P := P) h2 (by rw [hrec]; simp); rw [hrec] at this; exact this, hdone _ ys _ (Nat.le_refl _) hks (put _ hI h1 h2) ((World.putObj_heap_other (by omega)).trans h3)⟩
    · exact ⟨some c, _, by have := run_endLoop (P := P) h2 (by rw [hrec]; simp); rw [hrec] at this; exact this, hstop _ c pre ys _ (Nat.le_refl _) hks hpre (put _ (hIx c) h1 h2) ((World.putObj_heap_other (by omega)).trans h3)⟩
end Go.Proofs.YtfiplhnplmadmaaDoor

/- Package wal: filesFrom as an iterator; segments. Conditions: at most 1000 segments. -/
namespace Go.Proofs.YtfiplhnplmadmaaDoor
open Go.RowKit Go.Shelf
attribute [local go_sem] Oper.semAt_some
set_option linter.unusedVariables false

/-- The files from first on are A's. -/
def Logs (fm : Int → Option FileM) (first : Int) (A : List WSeg) : Prop := OkA A ∧ ∀ i : Nat, (fm (first + (i : Int))).isSome = (A[i]?).isSome ∧ (getF fm (first + (i : Int))).1 = bytA A i
theorem OnD.logs {fm : Int → Option FileM} {first : Int} {A C : List WSeg} (h : OnD fm first A C) (hC : ∀ i : Nat, (C[i]?).isSome = true → (A[i]?).isSome = true) (hA : OkA A) : Logs fm first A :=
  ⟨hA, fun i => ⟨by rw [h.get]; by_cases e : (A[i]?).isSome = true <;> simp [e], by rw [h.getF hC]⟩⟩
theorem WSt.logs {s : DkS} {first : Int} {A : List WSeg} {xs : List ByteArray} (h : WSt s first A xs) : Logs s.fm first (xs.foldl appA A) := h.on.logs (fun i hi => some_run xs A i hi) (h.ok.run h.tx)
def segN (first : Int) (n : Nat) : List Int := (List.range n).map fun i : Nat => first + (i : Int)
theorem segN_len (first : Int) (n : Nat) : (segN first n).length = n := by simp [segN]
theorem segN_get (first : Int) (n i : Nat) (h : i < n) : (segN first n)[i]? = some (first + (i : Int)) := by simp [segN, h]
theorem segN_mem {first : Int} {n : Nat} {k : Int} : k ∈ segN first n ↔ first ≤ k ∧ k < first + (n : Int) := by
  simp only [segN, List.mem_map, List.mem_range]
  constructor
  · rintro ⟨i, hi, rfl⟩; omega
  · rintro ⟨h1, h2⟩; exact ⟨(k - first).toNat, by omega, by omega⟩
theorem segN_rises (first : Int) (n : Nat) : (segN first n).Pairwise (· < ·) := by
  rw [segN, List.pairwise_map]
  exact List.pairwise_lt_range.imp (fun h => by omega)
theorem rises_eq : ∀ {a b : List Int}, a.Pairwise (· < ·) → b.Pairwise (· < ·) → (∀ k, k ∈ a ↔ k ∈ b) → a = b
  | [], [], _, _, _ => rfl
  | [], y :: b, _, _, h => by have := (h y).2 (List.mem_cons_self ..); cases this
  | x :: a, [], _, _, h => by have := (h x).1 (List.mem_cons_self ..); cases this
  | x :: a, y :: b, ha, hb, h => by
    obtain ⟨a1, a2⟩ := List.pairwise_cons.1 ha
    obtain ⟨b1, b2⟩ := List.pairwise_cons.1 hb
    have e : x = y := by
      have h1 := (h x).1 (List.mem_cons_self ..)
      have h2 := (h y).2 (List.mem_cons_self ..)
      rcases List.mem_cons.1 h1 with e | e
      · exact e
      · rcases List.mem_cons.1 h2 with e2 | e2
        · exact e2.symm
        · have := a1 y e2; have := b1 x e; omega
    subst e
    rw [rises_eq a2 b2 fun k => ?_]
    constructor
    · intro hk
      rcases List.mem_cons.1 ((h k).1 (List.mem_cons_of_mem _ hk)) with e | e
      · subst e; have := a1 k hk; omega
      · exact e
    · intro hk
      rcases List.mem_cons.1 ((h k).2 (List.mem_cons_of_mem _ hk)) with e | e
      · subst e; have := b1 k hk; omega
      · exact e
/-- What the iterator yields: the numbers not below first. -/
def FilK (fm : Int → Option FileM) (first : Int) (c : Nat) (ys : List Int) : Prop := ∃ zs, KeysF fm zs ∧ zs.length ≤ c ∧ ys = zs.filter (fun z => decide (first ≤ z))
theorem Logs.fil {fm : Int → Option FileM} {first : Int} {A : List WSeg} (h : Logs fm first A) {c : Nat} {ys : List Int} (hf : FilK fm first c ys) : ys = segN first A.length := by
  obtain ⟨zs, ⟨h1, h2⟩, h3, rfl⟩ := hf
  refine rises_eq (h1.filter _) (segN_rises _ _) fun k => ?_
  rw [List.mem_filter, h2, segN_mem, decide_eq_true_iff]
  constructor
  · rintro ⟨h4, h5⟩
    refine ⟨h5, ?_⟩
    have h6 := (h.2 (k - first).toNat).1
    rw [show first + ((k - first).toNat : Int) = k by omega, h4] at h6
    have := (List.getElem?_eq_some_iff.1 (Option.isSome_iff_exists.1 h6.symm).choose_spec).1
    omega
  · rintro ⟨h4, h5⟩
    refine ⟨?_, h4⟩
    have h6 := (h.2 (k - first).toNat).1
    rw [show first + ((k - first).toNat : Int) = k by omega] at h6
    rw [h6, List.getElem?_eq_getElem (by omega)]; rfl
theorem flat_ints (k : IntKind) (ys : List Int) : ys.flatMap (intE k) = ys.map (fun y => Value.int k y) := by
  induction ys with
  | nil => rfl
  | cons y r ih => rw [List.flatMap_cons, ih]; rfl
/-- The block of the row that the box N holds. -/
def ownN (N : Nat) (W : World) : Option Nat := (W.cell? ⟨N, 0, none⟩).bind Value.ownBlock
/-- What a round turns: the boxes N and N + 1, the row that N holds. -/
structure KpW (N : Nat) (A B : World) : Prop where
  sz : A.heap.size ≤ B.heap.size
  keep : ∀ k cs T fr, A.heap[k]? = some (.cells cs T fr) → k ≠ N → k ≠ N + 1 → ownN N A ≠ some k → B.heap[k]? = A.heap[k]?
  own : ∀ k, ownN N B = some k → ownN N A = some k ∨ A.heap.size ≤ k
theorem KpW.trans {N : Nat} {A B C : World} (h : KpW N A B) (g : KpW N B C) : KpW N A C := by
  refine ⟨Nat.le_trans h.sz g.sz, fun k cs T fr hk h1 h2 h3 => ?_, fun k hk => ?_⟩
  · have e := h.keep k cs T fr hk h1 h2 h3
    have hl := (Array.getElem?_eq_some_iff.1 hk).1
    rw [← e]
    refine g.keep k cs T fr (e.trans hk) h1 h2 (fun ho => ?_)
    rcases h.own k ho with q | q
    · exact h3 q
    · omega
  · rcases g.own k hk with q | q
    · exact h.own k q
    · exact .inr (Nat.le_trans h.sz q)
theorem KpW.refl (N : Nat) (A : World) : KpW N A A := ⟨Nat.le_refl _, fun _ _ _ _ _ _ _ _ => rfl, fun _ h => .inl h⟩
theorem ownN_eq {N : Nat} {A B : World} (h : B.heap[N]? = A.heap[N]?) : ownN N B = ownN N A := by unfold ownN; rw [World.cell?_of_block (a := ⟨N, 0, none⟩) h]
theorem KpW.putObj {N r : Nat} {W : World} {o o' : Obj} (h : W.heap[r]? = some o) (hc : o.isCells = false) (hr : N ≠ r) : KpW N W (W.putObj r o') := by
  refine ⟨by simp [World.putObj], fun k cs T fr hk _ _ _ => World.putObj_heap_other (fun e => ?_), fun k hk => .inl ?_⟩
  · subst e; rw [h] at hk; cases hk; cases hc
  · rw [← hk]; exact (ownN_eq (World.putObj_heap_other hr)).symm
theorem KpW.grown {N : Nat} {A B : World} (hg : A.grownBy B none) (hN : N < A.heap.size) : KpW N A B := by
  refine ⟨hg.size, fun k cs T fr hk _ _ _ => hg.block k (Array.getElem?_eq_some_iff.1 hk).1 (fun e => nomatch e), fun k hk => .inl ?_⟩
  rw [← hk]; exact (ownN_eq (hg.block N hN (fun e => nomatch e))).symm
theorem ownN_of {N : Nat} {W : World} {T : TypeId} {v : Value} (h : Boxed W N T v) : ownN N W = v.ownBlock := by unfold ownN; rw [h.cell]; rfl
def QpD (base d c : Nat) (s : DkS) (A B : World) : Prop := ButD base A B ∧ DObj base B d c s
theorem QpD.keep {base d c : Nat} {s : DkS} {A B : World} (h : QpD base d c s A B) (k : Nat) (o : Obj) (ho : A.heap[k]? = some o) (h1 : o.isCells = false) (h2 : o.isWalk = false) : B.heap[k]? = some o := by
  rw [← ho]
  refine h.1.block k (Array.getElem?_eq_some_iff.1 ho).1 (fun hs => ?_)
  rcases hs.2 with ⟨cs, T, fr, e, _⟩ | ⟨es, cl, e⟩
  · rw [ho] at e; cases e; cases h1
  · rw [ho] at e; cases e; cases h2
theorem int_off : offD 3 := by decide
theorem boxD {base : Nat} {w x : World} {B : Nat} {T : TypeId} {v : Value} (h : Boxed w B T v) (hT : offD T) (hb : ButD base w x) : Boxed x B T v := blkD (h : Blk w B T #[v]) hT hb

set_option maxRecDepth 100000 in
set_option maxHeartbeats 4000000 in
theorem ff_in {base d c : Nat} {s : DkS} (l N : Nat) (first : Int) (Bd Bf : Nat) (J Jx : List Int → World → Prop) (hc : c ≤ 1000000)
    (hJ : ∀ pre A B, J pre A → A.grownBy B none → J pre B) (hJQ : ∀ pre A B, J pre A → QpD base d c s A B → J pre B)
    (hY : ∀ pre x A ys, J pre A → FilK s.fm first c ys → (pre ++ [x]) <+: ys → YieldAt Fence.wide 1 Tryd.prog l #[.int .i64 x] A fun e B => (e = .returned (.bool true) ∧ J (pre ++ [x]) B ∧ KpW N A B) ∨ (e = .returned (.bool false) ∧ Jx (pre ++ [x]) B))
    (W : World) (hN : N + 1 < W.heap.size) (hNo : ownN N W = none) (hNt : ∃ T v, offD T ∧ Boxed W N T v) (hBd : Boxed W Bd 25 (pt d 0)) (hBf : Boxed W Bf 3 (.int .i64 first)) (hf1 : Bf ≠ N ∧ Bf ≠ N + 1) (hD : DObj base W d c s) (h0 : J [] W) :
    CallsIn Fence.wide 2 Tryd.prog 62 #[.func (.yield l) #[] #[], .pointer (some ⟨Bd, 0, none⟩), .pointer (some ⟨Bf, 0, none⟩)] W fun e B => (∃ v, e = .returned v) ∧ ((∃ ys, FilK s.fm first c ys ∧ J ys B) ∨ ∃ ys pre, FilK s.fm first c ys ∧ pre <+: ys ∧ Jx pre B) := by
  have cd := hBd.cell
  simp only [pt] at cd
  have HJ := Lib.hid hJ; have HJQ := Lib.hid hJQ; have HY := Lib.hid hY; have HNO := Lib.hid hNo; have HNT := Lib.hid hNt; have HBD := Lib.hid hBd; have HBF := Lib.hid hBf; have HF1 := Lib.hid hf1; have HD := Lib.hid hD; have H0 := Lib.hid h0
  clear hJ hJQ hY hNo hNt hBd hBf hf1 hD h0
  refine callsIn_of_wp Tryd.func62 rfl trivial ?_ rfl
  simp only [Tryd.ntmps62, List.size_toArray, List.length_cons, List.length_nil, Nat.reduceAdd, Nat.reduceSub, Array.replicate_succ, Array.replicate_zero, List.push_toArray, List.append_toArray, List.nil_append, List.cons_append]
  have h1 : 1 ≤ (2 : Nat) := by omega
  gi_wp2_with fail
  refine ⟨trivial, ?_⟩
  gi_at_call 26
  refine (callsIn_wide.2 (tFiles W HD.out hc)).mono ?_
  rintro e9 w2 ⟨ys, u, rfl, hrow, hK, hlen, hD2, hb9⟩
  obtain ⟨ao, cap, hu, hmax, hat⟩ := row_view hrow
  subst hu
  have HROW := Lib.hid hrow; have HK := Lib.hid hK; have HD2 := Lib.hid hD2; have HB9 := Lib.hid hb9; have HAT := Lib.hid hat
  clear hrow hK hD2 hb9 hat
  gi_wp2_with fail
  gi_loopw [9] (fun p wr => ∃ i : Nat, p = .int .i64 (i : Int) ∧ i ≤ ys.length ∧ J ((ys.take i).filter (fun z => decide (first ≤ z))) wr ∧ wr.ownsRow W.heap.size 3 1 (.slice ao ys.length cap) ys.length (ys.flatMap (intE .i64)) ∧ Boxed wr Bf 3 (.int .i64 first) ∧ (∀ k, ownN N wr = some k → w2.heap.size ≤ k) ∧ w2.heap.size ≤ wr.heap.size)
    (fun p wr => ys.length - (intOf p).toNat)
  case atStart =>
    have hb9 := HB9.out
    have hN2 : ownN N w2 = none := by
      obtain ⟨T, v, hT, hv⟩ := HNT.out
      have h2 := boxD hv hT hb9
      have e1 := ownN_of h2; have e2 := ownN_of hv
      rw [e1, ← e2]; exact HNO.out
    exact ⟨0, rfl, Nat.zero_le _, by simpa using HJQ.out [] W w2 H0.out ⟨hb9, HD2.out⟩, HROW.out, boxD HBF.out int_off hb9, fun k hk => (by rw [hN2] at hk; cases hk), Nat.le_refl _⟩
  case round =>
    obtain ⟨i, rfl, hi, hJi, hrow, hbf, hown, hsz⟩ := hrel
    have hf9 := hbf.cell
    by_cases hlt : i < ys.length
    · obtain ⟨y, hy⟩ : ∃ y, ys[i]? = some y := ⟨_, List.getElem?_eq_getElem hlt⟩
      have hcell : ∃ g, ao = some ⟨g, 0, none⟩ ∧ wr.cell? ⟨g, i, none⟩ = some (.int .i64 y) := by
        obtain ⟨ao', c', e, -, h9⟩ := row_view hrow
        cases e
        obtain ⟨g, e1, -, e2⟩ := h9 i hlt
        exact ⟨g, e1, by rw [e2, flat_ints, List.getElem?_map, hy]; rfl⟩
      obtain ⟨g, rfl, hg⟩ := hcell
      have HY1 := Lib.hid hy; have HJI := Lib.hid hJi; have HR := Lib.hid hrow; have HBF1 := Lib.hid hbf; have HOW := Lib.hid hown; have HSZ := Lib.hid hsz
      clear hy hJi hrow hbf hown
      have hsn : (ys.take (i + 1)).filter (fun z => decide (first ≤ z)) = (ys.take i).filter (fun z => decide (first ≤ z)) ++ (if first ≤ y then [y] else []) := by
        rw [List.take_add_one, HY1.out, List.filter_append]
        congr 1
        by_cases h : first ≤ y <;> simp [h]
      by_cases hfy : first ≤ y
      · rw [if_pos hfy] at hsn
        have hpre : ((ys.take i).filter (fun z => decide (first ≤ z))) ++ [y] <+: ys.filter (fun z => decide (first ≤ z)) := by
          rw [← hsn]; exact (List.take_prefix _ _).filter _
        obtain ⟨fn, tmps, asg, body, hy9, hR⟩ := HY.out _ y wr _ HJI.out ⟨ys, HK.out, hlen, rfl⟩ hpre
        have HSN := Lib.hid hsn; clear hsn hpre
        gi_wp2
        refine hR.mono ?_
        rintro e8 W3 (⟨rfl, hJ3, hk3⟩ | ⟨rfl, hJx3⟩)
        · have HJ3 := Lib.hid hJ3; have HK3 := Lib.hid hk3; clear hJ3 hk3 hy9
          gi_wp2
          go_roundw
          case rel =>
            have hk := HK3.out
            have hrow := HR.out
            have hr3 : W3.ownsRow W.heap.size 3 1 (.slice (some ⟨g, 0, none⟩) ys.length cap) ys.length (ys.flatMap (intE .i64)) := by
              refine row_same hrow hk.sz (fun j hj => ?_)
              obtain ⟨cs, hcs⟩ := row_block hrow hj
              have h2 := ((HROW.out).lt j hj)
              exact hk.keep j cs _ _ hcs (by omega) (by omega) (fun ho => by have := HOW.out j ho; omega)
            have hf3 : Boxed W3 Bf 3 (.int .i64 first) := by
              have h2 := (HBF.out).lt
              have h3 := HBF1.out
              unfold Boxed at h3 ⊢
              rw [hk.keep Bf _ _ _ h3 HF1.out.1 HF1.out.2 (fun ho => by have := HOW.out Bf ho; have := (HB9.out).size; omega)]; exact h3
            exact ⟨i + 1, rfl, by omega, by rw [HSN.out]; exact HJ3.out, hr3, hf3, fun k hk2 => (by rcases hk.own k hk2 with q | q; exact HOW.out k q; have := HSZ.out; omega), by have := hk.sz; have := HSZ.out; omega⟩
          case measure =>
            show ys.length - (((i : Int) + 1).toNat) < ys.length - (i : Int).toNat
            omega
        · have HX := Lib.hid hJx3; clear hJx3 hy9
          gi_wp2
          refine bodyPost_ret (results_none rfl _ _ _) rfl ?_
          exact ⟨⟨_, rfl⟩, .inr ⟨_, _, ⟨ys, HK.out, hlen, rfl⟩, by rw [← HSN.out]; exact (List.take_prefix _ _).filter _, HX.out⟩⟩
      · rw [if_neg hfy, List.append_nil] at hsn
        have HSN := Lib.hid hsn; clear hsn
        gi_wp2
        all_goals refine ⟨by first | trivial | exact fun _ h => (by cases h), ?_⟩
        all_goals gi_wp2
        refine ⟨⟨i + 1, rfl, by omega, by rw [HSN.out]; exact HJI.out, HR.out, HBF1.out, HOW.out, HSZ.out⟩, ?_⟩
        show ys.length - (((i : Int) + 1).toNat) < ys.length - (i : Int).toNat
        omega
    · have hq : i = ys.length := by omega
      subst hq
      rw [List.take_length] at hJi
      have HJI := Lib.hid hJi; clear hJi hrow hbf hown
      gi_wp2
      go_end0
      exact ⟨⟨_, rfl⟩, .inl ⟨_, ⟨ys, HK.out, hlen, rfl⟩, HJI.out⟩⟩
end Go.Proofs.YtfiplhnplmadmaaDoor

/- Package wal: segments. Conditions: at most 1000 segments. -/
namespace Go.Proofs.YtfiplhnplmadmaaDoor
open Go.RowKit Go.Shelf
attribute [local go_sem] Oper.semAt_some
set_option linter.unusedVariables false

theorem filesFrom_any (d : Nat) (first : Int) (w : World) :
    CallsIn Fence.wide 2 Tryd.prog 46 #[.pointer (some ⟨d, 0, none⟩), .int .i64 first] w fun e w' => e = .returned (.func (.func 62) #[] #[.pointer (some ⟨w.heap.size, 0, none⟩), .pointer (some ⟨w.heap.size + 1, 0, none⟩)]) ∧
      w' = (w.alloc (.cells #[.pointer (some ⟨d, 0, none⟩)] 25)).alloc (.cells #[.int .i64 first] 3) := by
  refine callsIn_of_wp Tryd.func46 rfl trivial ?_ rfl
  simp only [Tryd.ntmps46, List.size_toArray, List.length_cons, List.length_nil, Nat.reduceAdd, Nat.reduceSub, Array.replicate_succ, Array.replicate_zero, List.push_toArray, List.append_toArray, List.nil_append, List.cons_append]
  gi_wp2
  go_ret
  exact ⟨rfl, rfl⟩
theorem ff_seq {base d c : Nat} {s : DkS} (N : Nat) (first : Int) (Bd Bf : Nat) (hc : c ≤ 1000000) (w : World) (hN : N + 1 < w.heap.size) (hNo : ownN N w = none) (hNt : ∃ T v, offD T ∧ Boxed w N T v) (hBd : Boxed w Bd 25 (pt d 0)) (hBf : Boxed w Bf 3 (.int .i64 first)) (hf1 : Bf ≠ N ∧ Bf ≠ N + 1) (hD : DObj base w d c s) :
    SeqQ Tryd.prog 62 #[.pointer (some ⟨Bd, 0, none⟩), .pointer (some ⟨Bf, 0, none⟩)] (fun y : Int => #[.int .i64 y]) (KpW N) (QpD base d c s) (FilK s.fm first c) w := by
  intro l J Jx W hW hsz hJ hJx hJQ hY h0
  have hg := below_grown hW
  have kp : ∀ {B T v}, Boxed w B T v → Boxed W B T v := fun h => Boxed.kept h hg (fun e => nomatch e)
  refine ff_in l N first Bd Bf J Jx hc hJ hJQ hY W (by omega) ?_ ?_ (kp hBd) (kp hBf) hf1 (hD.call hW) h0
  · rw [ownN_eq (hW.block N (by omega))]; exact hNo
  · obtain ⟨T, v, h1, h2⟩ := hNt; exact ⟨T, v, h1, kp h2⟩
theorem wpListIn_append_went {F : Fence} {n : Nat} {P : Program} (w : World) {ops : Array Oper} {rest : List Oper} {o : Oper} {a : Act} {Q : Exit → Act → World → Prop}
    (hg : o.guard = none) (s x : Operand) (t : TypeId) (hop : o.op = Op.call { callee := Callee.builtin Builtin.append, args := #[s, x], argTypes := #[t, t] })
    (base : Nat) (e : TypeId) (i : TypeInfo) (z : Value) (size bytes : Nat) (h1 : P.underlying t = some (.slice e)) (h2 : P.info? e = some i) (h3 : i.zero = some z) (h4 : i.size = size) (h5 : i.bytes = bytes) (h6 : z.cells.size = size) (h7 : 0 < size)
    (v : Value) (k : Nat) (xs : List Value) (hs : a.eval s = v) (hown : w.ownsRow base e size v k xs) (ad : Addr) (m c : Nat) (news : List Value) (hx : a.eval x = .slice (some ad) m c) (hn : news.length = m * size)
    (hc : ∀ j u, news[j]? = some u → w.cell? (ad.add j) = some u) (h1c : ∀ u ∈ news, u.oneCell' = true) (b1 : k + m ≤ maxLen) (b2 : (k + m) * bytes ≤ 140737488355328) (b3 : base ≤ w.heap.size)
    (hK : ∀ v' w', w'.ownsRow base e size v' (k + m) (xs ++ news) → w.grownBy w' v.ownBlock → Went w v v' → wpListIn F n P ops Q rest (a.put o.dst v') w') :
    wpListIn F n P ops Q (o :: rest) a w := by
  refine wpListIn_plain hg fun K hK' => ?_
  obtain ⟨v', w', hrun, r1, r2, r3⟩ := run_append_went (P := P) w base t o.type e i z size bytes h1 h2 h3 h4 h5 h6 h7 v k xs hown ad m c news hn hc h1c b1 b2 b3
  unfold Oper.wpIn
  refine ⟨?_, ?_⟩
  · simp [Oper.about, hop, resolve, Target.leads, Sem.run_pure]
  · rw [Oper.semAt_plain F _ _ (by rw [hop]; intro c hc'; cases hc')]
    simp [execOp, hop, resolve, invoke, builtin, hs, hx, hrun, Result.andThen]
    exact hK' _ _ (hK v' w' r1 r2 r3)
/-- What the walk of segments holds between rounds. -/
structure SgI (base d c : Nat) (s : DkS) (first : Int) (w : World) (N : Nat) (pre : List Int) (W : World) : Prop where
  row : ∃ v, Boxed W N 53 v ∧ W.ownsRow (N + 2) 3 1 v pre.length (pre.flatMap (intE .i64))
  nxt : Boxed W (N + 1) 3 (.int .i64 (first + (pre.length : Int)))
  obj : DObj base W d c s
  but : ButD base w W
theorem noty_of {W : World} {r : Nat} {o : Obj} (h : W.heap[r]? = some o) (h1 : o.isCells = false) (h2 : o.isWalk = false) : ¬ TyS W r := by
  rintro (⟨cs, T, fr, e, _⟩ | ⟨es, cl, e⟩)
  · rw [h] at e; cases e; cases h1
  · rw [h] at e; cases e; cases h2
theorem But.grown {S : Nat → Prop} {w W W' : World} {row : Option Nat} (h : But S w W) (hg : W.grownBy W' row) (hr : ∀ r, row = some r → w.heap.size ≤ r) : But S w W' :=
  ⟨hg.os.trans h.os, hg.tape.trans h.tape, hg.output.trans h.output, Nat.le_trans h.size hg.size, fun k hk hs => (hg.block k (Nat.lt_of_lt_of_le hk h.size) (fun e => by have := hr k e.symm; omega)).trans (h.block k hk hs)⟩
theorem row_noncells {W W' : World} {row : Option Nat} {B sz k : Nat} {e : TypeId} {v : Value} {xs : List Value} (h : W.ownsRow B e sz v k xs) (hg : W.grownBy W' row) (hr : ∀ r, row = some r → ∃ o : Obj, W.heap[r]? = some o ∧ o.isCells = false) : W'.ownsRow B e sz v k xs := by
  refine row_same h hg.size (fun i hi => hg.block i (h.lt i hi).2 (fun e1 => ?_))
  obtain ⟨o, h1, h2⟩ := hr i e1.symm
  obtain ⟨cs, h3⟩ := row_block h hi
  rw [h3] at h1; cases h1; cases h2
theorem info_intS : (Tryd.prog.info? 3).map (fun i => (i.zero, i.size, i.bytes)) = some (some (.int .i64 0), 1, 8) := by kernel_rfl
theorem boxed_non {W W' : World} {row : Option Nat} {B : Nat} {T : TypeId} {v : Value} (h : Boxed W B T v) (hg : W.grownBy W' row) (hr : ∀ r, row = some r → ∃ o : Obj, W.heap[r]? = some o ∧ o.isCells = false) : Boxed W' B T v :=
  h.kept hg (fun e => by
    obtain ⟨o, ho, hc⟩ := hr B e.symm
    unfold Boxed at h; rw [h] at ho; cases ho; cases hc)
theorem SgI.shut {base d c : Nat} {s : DkS} {first : Int} {w : World} {N B : Nat} (hB : w.heap.size ≤ B) : ShutQ B (SgI base d c s first w N) := by
  rintro pre W W' row ⟨⟨v, h1, h2⟩, h3, h4, h5⟩ hg hr
  have hr2 : ∀ r, row = some r → ∃ o : Obj, W.heap[r]? = some o ∧ o.isCells = false := fun r e => by obtain ⟨_, o, ho, hc, _⟩ := hr r e; exact ⟨o, ho, hc⟩
  exact ⟨⟨v, boxed_non h1 hg hr2, row_noncells h2 hg hr2⟩, boxed_non h3 hg hr2,
    h4.gr hg (fun r e => by obtain ⟨_, o, ho, hc, hw⟩ := hr r e; exact noty_of ho hc hw), h5.grown hg (fun r e => by have := (hr r e).1; omega)⟩
theorem butD_tr {base : Nat} {w A B : World} (h : ButD base w A) (g : ButD base A B) : ButD base w B :=
  h.trans' g (fun i hi hs => ⟨hs.1, by
    by_cases ht : TyS w i
    · exact ht
    · have e := h.block i hi (fun hq => ht hq.2)
      have h2 := hs.2
      unfold TyS at h2; rw [e] at h2; exact h2⟩)
theorem SgI.turn {base d c : Nat} {s : DkS} {first : Int} {w : World} {N : Nat} {pre : List Int} {A B : World} (h : SgI base d c s first w N pre A) (hq : QpD base d c s A B) : SgI base d c s first w N pre B := by
  obtain ⟨⟨v, h1, h2⟩, h3, h4, h5⟩ := h
  exact ⟨⟨v, boxD h1 (by decide) hq.1, rowD h2 int_off hq.1⟩, boxD h3 int_off hq.1, hq.2, butD_tr h5 hq.1⟩
set_option maxRecDepth 100000 in
set_option maxHeartbeats 4000000 in
theorem segments_any {base d c : Nat} {s : DkS} (first : Int) (A : List WSeg) (w : World) (hD : DObj base w d c s) (hc : c ≤ 1000000) (hL : Logs s.fm first A) (h1 : 1 ≤ first ∧ first ≤ 1073741824) (hA : A.length ≤ 100000) :
    Calls Tryd.prog 30 #[pt d 0, .int .i64 first] w fun e w' => ∃ u, e = .returned u ∧ w'.ownsRow w.heap.size 3 1 u A.length ((segN first A.length).flatMap (intE .i64)) ∧ DObj base w' d c s ∧ ButD base w w' := by
  obtain ⟨N, hN⟩ : ∃ N, N = w.heap.size := ⟨_, rfl⟩
  refine (callsIn_wide (n := 3)).1 ?_
  refine callsIn_of_wp_marks Tryd.func30 rfl trivial ?_ rfl
  simp only [pt, Tryd.ntmps30, List.size_toArray, List.length_cons, List.length_nil, Nat.reduceAdd, Nat.reduceSub, Array.replicate_succ, Array.replicate_zero, List.push_toArray, List.append_toArray, List.nil_append, List.cons_append]
  have h1' : 1 ≤ (3 : Nat) := by omega
  rw [← hN]
  have HN := Lib.hid hN; have HD := Lib.hid hD; have HL := Lib.hid hL
  clear hN hD hL
  gi_wp2
  refine wpIn_wide.2 ?_
  go_step3
  go_wp2
  go_step3
  go_wp2_with fail
  refine ((callsIn_wide (n := 2)).1 (filesFrom_any d first _)).mono ?_
  rintro e w' ⟨rfl, rfl⟩
  go_wp2_with fail
  obtain ⟨i0, hi, hz0, hz1, hz2⟩ := info_parts info_intS
  have bL := (((Boxed.new w 53 (.slice none 0 0)).alloc (.cells #[.int .i64 first] 3)).alloc (.cells #[.pointer (some ⟨d, 0, none⟩)] 25)).alloc (.cells #[.int .i64 first] 3)
  have bN := ((Boxed.new (w.alloc (.cells #[.slice none 0 0] 53)) 3 (.int .i64 first)).alloc (.cells #[.pointer (some ⟨d, 0, none⟩)] 25)).alloc (.cells #[.int .i64 first] 3)
  have bD := (Boxed.new ((w.alloc (.cells #[.slice none 0 0] 53)).alloc (.cells #[.int .i64 first] 3)) 25 (.pointer (some ⟨d, 0, none⟩))).alloc (.cells #[.int .i64 first] 3)
  have bF := Boxed.new (((w.alloc (.cells #[.slice none 0 0] 53)).alloc (.cells #[.int .i64 first] 3)).alloc (.cells #[.pointer (some ⟨d, 0, none⟩)] 25)) 3 (.int .i64 first)
  have hB0 : Below w.heap.size w ((((w.alloc (.cells #[.slice none 0 0] 53)).alloc (.cells #[.int .i64 first] 3)).alloc (.cells #[.pointer (some ⟨d, 0, none⟩)] 25)).alloc (.cells #[.int .i64 first] 3)) := ((((Below.refl _ w).alloc (Nat.le_refl _) _).alloc (by simp) _).alloc (by simp; omega) _).alloc (by simp; omega) _
  have hsz : ((((w.alloc (.cells #[.slice none 0 0] 53)).alloc (.cells #[.int .i64 first] 3)).alloc (.cells #[.pointer (some ⟨d, 0, none⟩)] 25)).alloc (.cells #[.int .i64 first] 3)).heap.size = w.heap.size + 4 := by simp
  simp only [World.size_alloc] at bN bD bF ⊢
  rw [← HN.out] at bL bN bD bF hB0 hsz ⊢
  obtain ⟨W0, hW0⟩ : ∃ W0, ((((w.alloc (.cells #[.slice none 0 0] 53)).alloc (.cells #[.int .i64 first] 3)).alloc (.cells #[.pointer (some ⟨d, 0, none⟩)] 25)).alloc (.cells #[.int .i64 first] 3)) = W0 := ⟨_, rfl⟩
  rw [hW0] at bL bN bD bF hB0 hsz ⊢
  clear hW0
  rw [HN.out] at hB0
  have hD0 := HD.out.call hB0
  have hwN : w.heap.size = N := HN.out.symm
  refine (wpIn_wide (n := 3)).1 ?_
  refine rf_q (gf := 62) (lb := #[.pointer (some ⟨N + 1 + 1, 0, none⟩), .pointer (some ⟨N + 1 + 1 + 1, 0, none⟩)]) rfl (enters_of Tryd.func62 (by kernel_rfl) rfl)
    (ff_seq (base := base) (d := d) (c := c) (s := s) N first (N + 1 + 1) (N + 1 + 1 + 1) hc W0 (by omega) (by rw [ownN_of bL]; rfl) ⟨_, _, by decide, bL⟩ bD bF (by omega) hD0) (fun _ => rfl) KpW.trans (fun W o o' h h1 h2 => KpW.putObj h h1 (by omega)) (fun A B h => h.keep)
    (SgI base d c s first w N) (fun _ _ _ => False) (SgI.shut (by omega)) (fun pre A B h hq => h.turn hq) (fun _ _ _ _ _ h => h.elim)
    ⟨⟨_, bL, World.ownsRow_nil _ _ _ _⟩, by simpa using bN, hD0, But.of_below hB0⟩
    (fun x a' _ => a' = { tmps := #[.pointer (some ⟨d, 0, none⟩), .int .i64 first, undef, undef, .slice none 0 0, .pointer (some ⟨N, 0, none⟩), .pointer (some ⟨N + 1, 0, none⟩), .int .i64 x, .int .i64 first, .pointer (some ⟨d, 0, none⟩), .int .i64 first, .func (.func 62) #[] #[.pointer (some ⟨N + 1 + 1, 0, none⟩), .pointer (some ⟨N + 1 + 1 + 1, 0, none⟩)], .int .i64 x, undef, undef, undef, undef, undef, undef, undef, undef, undef, undef], defers := [] })
    (fun _ _ _ _ _ _ h _ _ => h) ?assign ?body ?done ?stop
  case assign =>
    intro l pre x W K hlt hI hK
    gi_wp2
    exact hK _ _ (KeepsFrom.refl _ _) (KpW.refl _ _) hI rfl
  case stop => intro D c' pre ys W _ _ _ h; exact h.elim
  case body =>
    rintro l pre x a' W rfl ⟨r, hr⟩ ⟨⟨v, hv, hrow⟩, hn, hobj, hbut⟩ rfl ⟨ys, hks, hp⟩
    have hys := HL.out.fil hks
    subst hys
    have hlt : pre.length < A.length := by have := hp.length_le; rw [List.length_append, segN_len] at this; simp at this; omega
    have hx : x = first + (pre.length : Int) := by
      obtain ⟨tl, htl⟩ := hp
      have h1 : (segN first A.length)[pre.length]? = some x := by rw [← htl, List.append_assoc, List.getElem?_append_right (Nat.le_refl _)]; simp
      rw [segN_get _ _ _ hlt] at h1; exact (Option.some.inj h1).symm
    subst hx
    have hWs : N + 5 < W.heap.size := by have := (Array.getElem?_eq_some_iff.1 hr).1; omega
    have cv := hv.cell; have cn := hn.cell; have fv := hv.frozen; have fn := hn.frozen
    have HOB := Lib.hid hobj; have HBU := Lib.hid hbut; have HP := Lib.hid hp; have HKS := Lib.hid hks
    clear hobj hbut hp hks
    gi_wp2_with (gi_at_builtin; refine wpListIn_append_went _ rfl _ _ 53 rfl (N + 2) 3 i0 (.int .i64 0) 1 8 Tryd.underlying53 hi hz0 hz1 hz2 rfl (by decide) _ _ _ rfl (hrow.alloc _) ⟨W.heap.size, 0, none⟩ 1 1 [.int .i64 (first + (pre.length : Int))] rfl rfl (cell_one_new _ _ _) (by simp [Value.oneCell']) (by unfold maxLen; omega) (by omega) (by simp; omega) ?_; intro v' w1 hown' hgrow hwent; obtain ⟨g', cap', rfl⟩ := ownsRow_succ hown'; replace hwent : Went (W.alloc (.cells #[.int .i64 (first + (pre.length : Int))] 3)) v (.slice (some ⟨g', 0, none⟩) (pre.length + 1) cap') := hwent; replace hgrow : (W.alloc (.cells #[.int .i64 (first + (pre.length : Int))] 3)).grownBy w1 v.ownBlock := hgrow; obtain ⟨p1, p2, p3, p4, p5⟩ := hv.appended (by decide) (own_lowI hrow (B' := N) (by omega)) (by omega) (Nat.le_refl _) (own_lowI hown' (B' := N) (by omega)) hgrow; have hn1 := ((hn.alloc (.cells #[.int .i64 (first + (pre.length : Int))] 3)).kept hgrow (fun e => by have := own_blockI hrow _ e.symm; omega)).other (B' := N) (by omega) (.slice (some ⟨g', 0, none⟩) (pre.length + 1) cap'); have hc1 := p1.cell; have hf1 := p1.frozen; have hc2 := hn1.cell; have hf2 := hn1.frozen)
    have g3 := grownBy_setCell' (w1.setCell ⟨N, 0, none⟩ (.slice (some ⟨g', 0, none⟩) (pre.length + 1) cap')) (N + 1) (.int .i64 (first + (pre.length : Int) + 1))
    have hsz1 : W.heap.size ≤ w1.heap.size := by have := hgrow.size; simp at this; omega
    have hblk : ∀ k, k < W.heap.size → k ≠ N → k ≠ N + 1 → v.ownBlock ≠ some k → ((w1.setCell ⟨N, 0, none⟩ (.slice (some ⟨g', 0, none⟩) (pre.length + 1) cap')).setCell ⟨N + 1, 0, none⟩ (.int .i64 (first + (pre.length : Int) + 1))).heap[k]? = W.heap[k]? := by
      intro k hk h1 h2 h3
      rw [g3.block k (by simp; omega) (by simpa using h2), (grownBy_setCell' w1 N _).block k (by omega) (by simpa using h1), hgrow.block k (by simp; omega) (fun e => h3 e.symm)]
      exact (World.grownBy_alloc W _ none).block k hk (fun e => nomatch e)
    have p3' := (hown'.kept (grownBy_setCell' w1 N (.slice (some ⟨g', 0, none⟩) (pre.length + 1) cap')) (.inr (p1.not_row (by decide) hown').symm)).kept g3 (.inr (fun e => by have := own_blockI hown' _ e; omega))
    have hl1 : (pre ++ [first + (pre.length : Int)]).length = pre.length + 1 := by simp
    refine ⟨(p4.trans (KeepsOthers.setCell _ _ _)).from _, ⟨by simp; omega, fun k cs T fr hk h1 h2 h3 => hblk k (Array.getElem?_eq_some_iff.1 hk).1 h1 h2 (fun e => h3 ((ownN_of hv).trans e)), fun k hk => ?_⟩, ⟨⟨_, p2.other (by omega) _, ?_⟩, ?_, ?_, ?_⟩⟩
    · rw [ownN_of (p2.other (by omega) _)] at hk
      rcases hwent with e | e
      · exact .inl ((ownN_of hv).trans (e ▸ hk))
      · have := e k hk; simp at this; exact .inr (by omega)
    · rw [hl1, List.flatMap_append]; exact p3'
    · rw [hl1, show first + ((pre.length + 1 : Nat) : Int) = first + (pre.length : Int) + 1 by omega]; exact hn1.set _
    · refine (((HOB.out.gr (World.grownBy_alloc W _ none) (fun r e => nomatch e)).gr hgrow (fun r e => ?_)).gr (grownBy_setCell' w1 N _) (fun r e => ?_)).gr g3 (fun r e => ?_)
      · obtain ⟨cs, h3⟩ := row_block (hrow.alloc (.cells #[.int .i64 (first + (pre.length : Int))] 3)) e
        exact not_ty h3 int_off
      · cases e; exact not_ty (p1 : _ = _) (by decide)
      · cases e; exact not_ty (hn1 : _ = _) int_off
    · refine (((HBU.out.grown (World.grownBy_alloc W _ none) (fun r e => nomatch e)).grown hgrow (fun r e => ?_)).grown (grownBy_setCell' w1 N _) (fun r e => ?_)).grown g3 (fun r e => ?_)
      · have := own_blockI hrow _ e; omega
      · cases e; omega
      · cases e; omega
  case done =>
    rintro D ys W hDw hks ⟨⟨v, hv, hrow⟩, hn, hobj, hbut⟩ hdef
    have hys := HL.out.fil hks
    subst hys
    obtain ⟨ao, n, cap, rfl⟩ := own_slice hrow
    have cv := hv.cell
    have HROW := Lib.hid hrow; have HOB := Lib.hid hobj; have HBU := Lib.hid hbut; have HDF := Lib.hid hdef; have HV := Lib.hid hv
    clear hrow hobj hbut hn hks hdef
    go_wp2
    rw [Exit.noGoto_ret]
    refine ⟨by simp, .inl ⟨_, _, rfl, run_takeDeferred (w := W) HDF.out, ?_⟩⟩
    have hg := fun (o : Obj) => grownBy_putObj' W D o
    have hnt : ¬ TyS W D := noty_of HDF.out rfl rfl
    refine ⟨_, results_tmp rfl _ _ _, _, rfl, ?_, HOB.out.gr (hg _) (fun r e => by cases e; exact hnt), HBU.out.grown (hg _) (fun r e => by cases e; omega)⟩
    have h := ownsRow_putObj (W := W) (own_lowI HROW.out (B' := w.heap.size) (by omega)) (.deferred none) HDF.out rfl
    rw [segN_len, hwN] at h
    exact h
end Go.Proofs.YtfiplhnplmadmaaDoor

/- Package wal: here, Open, Append, Last, Read. Conditions: files of at most 2^43 bytes; at most 100000 segments. -/
namespace Go.Proofs.YtfiplhnplmadmaaDoor
open Go.RowKit Go.PlainAid Go.Shelf
set_option linter.unusedVariables false

theorem tab_butD {base : Nat} {w x : World} (h : Tab w) (hb : ButD base w x) (h0 : 0 < base) : Tab x := fun i hi => by
  have h1 := h i hi
  rw [← h1]; exact World.cell?_of_block (hb.block 0 (World.block_lt_of_cell? w _ h1) (fun hs => by have := hs.1; omega))
theorem dat_seg {fm : Int → Option FileM} {first : Int} {A : List WSeg} (h : Logs fm first A) {i : Nat} {y : WSeg} (hy : A[i]? = some y) : datF fm (first + (i : Int)) = y.b := by
  apply bytes_eq
  unfold datF
  rw [(h.2 i).2]; unfold bytA; rw [hy]; rfl
theorem hereA_snoc {first : Int} {A : List WSeg} {y : WSeg} (hy : A[A.length - 1]? = some y) (h0 : A ≠ []) : hereA first A = if fullS y = true then first + (A.length : Int) else first + ((A.length - 1 : Nat) : Int) := by
  unfold hereA atA
  rw [List.getLast?_eq_getElem?, hy]
  show first + (((if fullS y = true then A.length else A.length - 1) : Nat) : Int) = _
  split <;> rfl
/-- What is asked of a log to be read. -/
structure LogR (base d c : Nat) (s : DkS) (first : Int) (A : List WSeg) (w : World) : Prop where
  obj : DObj base w d c s
  c6 : c ≤ 1000000
  log : Logs s.fm first A
  fst : 1 ≤ first ∧ first ≤ 1073741824
  len : A.length ≤ 100000
  sz : ∀ y ∈ A, y.b.size ≤ 1000000000
  txt : (txtA A).length ≤ 1000000
  tab : Tab w
  b0 : 0 < base
theorem LogR.turn {base d c : Nat} {s : DkS} {first : Int} {A : List WSeg} {w x : World} (h : LogR base d c s first A w) (hD : DObj base x d c s) (hb : ButD base w x) : LogR base d c s first A x :=
  ⟨hD, h.c6, h.log, h.fst, h.len, h.sz, h.txt, tab_butD h.tab hb h.b0, h.b0⟩
theorem LogR.below {base d c : Nat} {s : DkS} {first : Int} {A : List WSeg} {w x : World} (h : LogR base d c s first A w) (hb : Below w.heap.size w x) : LogR base d c s first A x := h.turn (h.obj.call hb) (But.of_below hb)
set_option maxRecDepth 100000 in
set_option maxHeartbeats 2000000 in
theorem here_any {base d c : Nat} {s : DkS} (first : Int) (A : List WSeg) (w : World) (hR : LogR base d c s first A w) :
    Calls Tryd.prog 33 #[pt d 0, .int .i64 first] w fun e w' => e = .returned (.int .i64 (hereA first A)) ∧ DObj base w' d c s ∧ ButD base w w' := by
  have hlen := hR.len
  have HRR := Lib.hid hR; clear hR
  go_enter Tryd.func33, Tryd.ntmps33
  simp only [pt]
  go_wp2_with fail
  refine (segments_any first A w HRR.out.obj HRR.out.c6 HRR.out.log HRR.out.fst HRR.out.len).mono ?_
  rintro e w1 ⟨u, rfl, hrow, hD1, hb1⟩
  obtain ⟨ao, cap, rfl, hm, hat⟩ := row_view hrow
  have HR1 := Lib.hid (HRR.out.turn hD1 hb1); have HB1 := Lib.hid hb1
  clear hrow hD1 hb1
  have hf := HRR.out.fst
  obtain ⟨fst1, fst2⟩ := hf
  by_cases h0 : A = []
  · subst h0
    have HAT := Lib.hid hat; clear hat
    go_wp2
    go_ret
    exact ⟨ret_int (by simp [hereA, atA]), HR1.out.obj, HB1.out⟩
  · have hpos : 0 < A.length := List.length_pos_iff.2 h0
    obtain ⟨y, hy⟩ : ∃ y, A[A.length - 1]? = some y := ⟨_, List.getElem?_eq_getElem (by omega)⟩
    obtain ⟨g, rfl, -, hg⟩ := hat (A.length - 1) (by omega)
    rw [flat_ints, List.getElem?_map, segN_get _ _ _ (by omega)] at hg
    replace hg : w1.cell? ⟨g, A.length - 1, none⟩ = some (.int .i64 (first + ((A.length - 1 : Nat) : Int))) := hg
    have hne : ((A.length : Int) == 0) = false := by simp; omega
    have e1 : (A.length : Int) - 1 = ((A.length - 1 : Nat) : Int) := by omega
    have hyb := HRR.out.sz y (List.mem_of_getElem? hy)
    obtain ⟨p, hp⟩ : ∃ p : Int, p = first + ((A.length - 1 : Nat) : Int) := ⟨_, rfl⟩
    rw [← hp] at hg
    have HY := Lib.hid hy; have HP := Lib.hid hp; have H0 := Lib.hid h0; have HAT := Lib.hid hat; have HA := Lib.hid hlen
    have hp1 : p ≤ 2000000000 := by omega
    have hp2 : 0 ≤ p := by omega
    clear hy hp h0 hat
    have hdat : datF s.fm p = y.b := by rw [HP.out]; exact dat_seg HRR.out.log HY.out
    have hhere := hereA_snoc (first := first) HY.out H0.out
    have HDT := Lib.hid hdat; have HH := Lib.hid hhere
    clear hdat hhere hyb hlen
    go_wp2_with fail
    clear e1 hne
    refine (tData w1 p HR1.out.obj).mono ?_
    rintro e w2 ⟨rfl, hD2, hb2⟩
    rw [HDT.out]
    have HR2 := Lib.hid (HR1.out.turn hD2 hb2); have HB2 := Lib.hid (butD_tr HB1.out hb2)
    have hyb := HRR.out.sz y (List.mem_of_getElem? HY.out)
    have hS := seg_all (HRR.out.log.1 y (List.mem_of_getElem? HY.out))
    obtain ⟨B, hB⟩ : ∃ B, B = y.b := ⟨_, rfl⟩
    obtain ⟨cQ, hcQ⟩ : ∃ cQ : Int, cQ = if y.q.size = 0 then 0 else 2 := ⟨_, rfl⟩
    rw [← hB] at hyb hS ⊢
    rw [← hcQ] at hS
    have hE : hereA first A = if 256 ≤ B.size ∨ cQ ≠ 0 then p + 1 else p := by
      rw [HH.out]
      have e2 : (fullS y = true) ↔ (256 ≤ B.size ∨ cQ ≠ 0) := by
        unfold fullS; rw [Bool.or_eq_true, decide_eq_true_iff, decide_eq_true_iff, hB, hcQ]
        by_cases hq : y.q.size = 0
        · rw [if_pos hq]; simp [hq]
        · rw [if_neg hq]; simp [hq]
      by_cases hf : fullS y = true
      · rw [if_pos hf, if_pos (e2.1 hf), HP.out]; omega
      · rw [if_neg hf, if_neg (fun h => hf (e2.2 h)), HP.out]
    have HE := Lib.hid hE; have HS := Lib.hid hS; have HSZ := Lib.hid hyb
    clear hD2 hb2 hB hcQ hyb hS hE
    by_cases hbig : (256 : Int) ≤ (B.size : Int)
    · have hb1 : decide ((256 : Int) ≤ (B.size : Int)) = true := decide_eq_true hbig
      go_wp2
      go_ret
      exact ⟨ret_int (by rw [HE.out, if_pos (.inl (by omega))]), HR2.out.obj, HB2.out⟩
    · have hb1 : decide ((256 : Int) ≤ (B.size : Int)) = false := decide_eq_false hbig
      go_wp2_with fail
      have hyb := HSZ.out
      refine (all_any B w2 HR2.out.tab (by omega)).mono ?_
      rintro e w3 ⟨v, l, b, c3, rfl, hAll, hrow3, hb3⟩
      obtain ⟨-, -, hc3⟩ := run_det hAll.1 hAll.2 HS.out.1 HS.out.2
      subst hc3
      have HR3 := Lib.hid (HR2.out.below hb3); have HB3 := Lib.hid (butD_tr HB2.out (But.of_below hb3)); have HBG := Lib.hid hbig
      clear hAll hrow3 hb3 hyb hb1 hbig
      by_cases hq : c3 = 0
      · subst hq
        go_wp2
        go_ret
        exact ⟨ret_int (by rw [HE.out, if_neg (by have := HBG.out; omega)]), HR3.out.obj, HB3.out⟩
      · have hne : (c3 != 0) = true := by simpa using hq
        have HQ := Lib.hid hq; clear hq
        go_wp2
        go_ret
        exact ⟨ret_int (by rw [HE.out, if_pos (.inr HQ.out)]), HR3.out.obj, HB3.out⟩
end Go.Proofs.YtfiplhnplmadmaaDoor

/- Package wal: Open. Conditions: as for here. -/
namespace Go.Proofs.YtfiplhnplmadmaaDoor
open Go.RowKit Go.PlainAid Go.Shelf
set_option linter.unusedVariables false
theorem strE_oneW (z : ByteArray) : ∀ u ∈ strE z, u.oneCell' = true := by intro u hu; simp [strE] at hu; subst hu; rfl
theorem txtA_take {A : List WSeg} {i : Nat} {y : WSeg} (h : A[i]? = some y) : txtA (A.take (i + 1)) = txtA (A.take i) ++ y.T := by
  unfold txtA; rw [List.take_add_one, h]; simp
theorem txtA_len {A : List WSeg} {i : Nat} : (txtA (A.take i)).length ≤ (txtA A).length := by
  conv => rhs; rw [← List.take_append_drop i A]
  unfold txtA; rw [List.flatMap_append, List.length_append]; omega
set_option maxRecDepth 100000 in
set_option maxHeartbeats 4000000 in
theorem wopen_any {base d c : Nat} {s : DkS} (first : Int) (A : List WSeg) (w : World) (hR : LogR base d c s first A w) :
    Calls Tryd.prog 11 #[pt d 0, .int .i64 first] w fun e w' => ∃ (N : Nat) (u : Value), e = .returned (.tuple #[pt N 0, u, .int .i64 0]) ∧ Blk w' N 41 #[.bool true, pt d 0, .int .i64 first] ∧ w'.ownsRow w.heap.size 9 1 u (txtA A).length ((txtA A).flatMap strE) ∧ DObj base w' d c s ∧ ButD base w w' := by
  have hlen := hR.len; have htx := hR.txt
  obtain ⟨fst1, fst2⟩ := hR.fst
  obtain ⟨i0, hinf, hz0, hz1, hz2⟩ := info_parts info_strI
  have HRR := Lib.hid hR; clear hR
  go_enter Tryd.func11, Tryd.ntmps11
  simp only [pt]
  go_wp2_with fail
  refine (segments_any first A w HRR.out.obj HRR.out.c6 HRR.out.log HRR.out.fst HRR.out.len).mono ?_
  rintro e w1 ⟨u, rfl, hrow, hD1, hb1⟩
  obtain ⟨ao, cap, rfl, hm, hat⟩ := row_view hrow
  have HR1 := Lib.hid (HRR.out.turn hD1 hb1); have HB1 := Lib.hid hb1; have HROW := Lib.hid hrow
  clear hrow hD1 hb1 hat
  go_wp2_with fail
  go_loopg [7, 27] (A.length + 1) (fun g s7 s27 wr => ∃ i : Nat, s27 = .int .i64 i ∧ i ≤ A.length ∧ A.length + 1 ≤ i + g ∧ Hid (wr.ownsRow w.heap.size 9 1 s7 (txtA (A.take i)).length ((txtA (A.take i)).flatMap strE)) ∧ Hid (wr.ownsRow w.heap.size 3 1 (.slice ao A.length cap) A.length ((segN first A.length).flatMap (intE .i64))) ∧ Hid (LogR base d c s first A wr) ∧ Hid (ButD base w wr))
  case atStart => exact ⟨0, rfl, by omega, by omega, Lib.hid (World.ownsRow_nil _ _ _ _), HROW, HR1, HB1⟩
  case round =>
    obtain ⟨i, rfl, hi, hg, HT, HN, HL, HB⟩ := hrel
    by_cases hlt : i < A.length
    · obtain ⟨y, hy⟩ : ∃ y, A[i]? = some y := ⟨_, List.getElem?_eq_getElem hlt⟩
      obtain ⟨ao', c', e, -, hat⟩ := row_view HN.out
      cases e
      obtain ⟨g2, rfl, -, hg2⟩ := hat i hlt
      rw [flat_ints, List.getElem?_map, segN_get _ _ _ hlt] at hg2
      replace hg2 : wr.cell? ⟨g2, i, none⟩ = some (.int .i64 (first + (i : Int))) := hg2
      obtain ⟨p, hp⟩ : ∃ p : Int, p = first + (i : Int) := ⟨_, rfl⟩
      rw [← hp] at hg2
      have hdat : datF s.fm p = y.b := by rw [hp]; exact dat_seg HRR.out.log hy
      have hyb := HRR.out.sz y (List.mem_of_getElem? hy)
      have HDT := Lib.hid hdat; have HY := Lib.hid hy; have HP := Lib.hid hp; have HAT := Lib.hid hat
      clear hdat hy hp hat
      go_wp2_with fail
      refine (tData wr p HL.out.obj).mono ?_
      rintro e w2 ⟨rfl, hD2, hb2⟩
      rw [HDT.out]
      have HL2 := Lib.hid (HL.out.turn hD2 hb2); have HB2 := Lib.hid (butD_tr HB.out hb2); have HT2 := Lib.hid (rowD HT.out (by decide) hb2); have HN2 := Lib.hid (rowD HN.out int_off hb2)
      clear hD2 hb2
      go_wp2_with fail
      refine (all_any y.b w2 HL2.out.tab (by omega)).mono ?_
      rintro e w3 ⟨v, l, b, c3, rfl, hAll, hrow3, hb3⟩
      have hS := seg_all (HRR.out.log.1 y (List.mem_of_getElem? HY.out))
      obtain ⟨hl3, -, -⟩ := run_det hAll.1 hAll.2 hS.1 hS.2
      subst hl3
      have HL3 := Lib.hid (HL2.out.below hb3); have HB3 := Lib.hid (butD_tr HB2.out (But.of_below hb3)); have HT3 := Lib.hid (row_below HT2.out hb3); have HN3 := Lib.hid (row_below HN2.out hb3)
      have htk := txtA_take HY.out
      have htl := txtA_len (A := A) (i := i + 1)
      have hsz3 := HB3.out.size
      have HTK := Lib.hid htk; have HROW3 := Lib.hid hrow3
      rw [htk, List.length_append] at htl
      clear hAll hS hb3 htk hrow3
      obtain ⟨a7, n7, c7, rfl⟩ := own_slice HT3.out
      obtain ⟨a8, n8, c8, rfl⟩ := own_slice HROW3.out
      go_wp2_with (at_builtin; go_loud (refine wpList_append_src rfl (.tmp 39) (.tmp 40) 28 rfl w.heap.size 9 i0 (.string ⟨#[]⟩) 1 16 Tryd.underlying28 hinf hz0 hz1 hz2 rfl (by decide) (.slice a7 n7 c7) (txtA (A.take i)).length ((txtA (A.take i)).flatMap strE) rfl HT3.out strE y.T (.slice a8 n8 c8) rfl (SliceOf.own HROW3.out (fun _ _ => rfl)) (fun z _ => ⟨rfl, strE_oneW z⟩) (by unfold maxLen; omega) (by omega) (by omega) ?_); intro v' w4 hown' hgrow)
      have hD4 := HL3.out.obj.row HT3.out (by decide) hgrow
      have hB4 : ButD base w w4 := HB3.out.grown hgrow (fun r e => own_blockI HT3.out _ e)
      have HB4 := Lib.hid hB4; have HL4 := Lib.hid (HRR.out.turn hD4 hB4); have HN4 := Lib.hid (row_kept_row HN3.out HT3.out hgrow (by decide))
      have HT4 : Hid (w4.ownsRow w.heap.size 9 1 v' (txtA (A.take (i + 1))).length ((txtA (A.take (i + 1))).flatMap strE)) := Lib.hid (by rw [HTK.out, List.length_append, List.flatMap_append]; exact hown')
      clear hD4 hB4 hgrow hown'
      go_roundg (gk - 1)
      case rel => exact ⟨i + 1, by go_num, by omega, by omega, HT4, HN4, HL4, HB4⟩
      case measure => omega
    · have hq : i = A.length := by omega
      subst hq
      rw [List.take_length] at HT
      have hb := HB.out
      obtain ⟨ao2, n2, cap2, rfl⟩ := own_slice HT.out
      go_wp2
      go_ret3
      have hg := World.grownBy_alloc wr (.cells #[.bool true, .pointer (some ⟨d, 0, none⟩), .int .i64 first] 41) none
      exact ⟨_, _, rfl, World.alloc_heap_new wr _, row_kept_new HT.out hg, HL.out.obj.new hg, HB.out.grown hg (fun r e => nomatch e)⟩
theorem Blk.grW {w x : World} {N : Nat} {T : TypeId} {cs : Array Value} (h : Blk w N T cs) (hT : offD T) {base : Nat} (hb : ButD base w x) : Blk x N T cs := blkD h hT hb
end Go.Proofs.YtfiplhnplmadmaaDoor

/- Package wal: a disk that bears a log, as one object; what calls make of it. Conditions: at most 900 calls. -/
namespace Go.Proofs.YtfiplhnplmadmaaDoor
open Go.RowKit Go.PlainAid Go.Shelf
set_option linter.unusedVariables false

theorem nodup_le : ∀ {l K : List Int}, l.Nodup → (∀ a ∈ l, a ∈ K) → l.length ≤ K.length
  | [], K, _, _ => Nat.zero_le _
  | a :: r, K, hn, hs => by
    obtain ⟨h1, h2⟩ := List.nodup_cons.1 hn
    have ha := hs a (List.mem_cons_self ..)
    have h3 := nodup_le (K := K.erase a) h2 (fun b hb => (List.mem_erase_of_ne (fun e => h1 (by rw [← e]; exact hb))).2 (hs b (List.mem_cons_of_mem _ hb)))
    have h4 := List.length_erase_of_mem ha
    have h5 : 0 < K.length := List.length_pos_iff.2 (List.ne_nil_of_mem ha)
    rw [List.length_cons]; omega
theorem DObj.tight {base d c : Nat} {s : DkS} {w : World} (h : DObj base w d c s) {K : List Int} (hK : ∀ k, (s.fm k).isSome = true → k ∈ K) : DObj base w d K.length s := by
  obtain ⟨M, pv, g, c', hc, hP⟩ := h
  refine ⟨M, pv, g, K.length, Nat.le_refl _, { hP with map := ?_ }⟩
  obtain ⟨l, h1, h2, h3⟩ := hP.map
  refine ⟨l, h1, h2, ?_⟩
  have hnd : (l.map (·.1)).Nodup := h1.keys
  have h4 := nodup_le (K := K) hnd (fun a ha => by
    obtain ⟨p, hp, rfl⟩ := List.mem_map.1 ha
    have h5 := (getK_mem l p.1 p.2 hnd).2 hp
    rw [h2] at h5
    refine hK _ ?_
    rw [← hP.rel p.1]
    cases hg : g p.1 with
    | none => rw [hg] at h5; cases h5
    | some f => rfl)
  rwa [List.length_map] at h4
theorem run_len (xs : List ByteArray) (A : List WSeg) : (xs.foldl appA A).length ≤ A.length + xs.length := by
  induction xs generalizing A with
  | nil => simp
  | cons x r ih =>
    rw [List.foldl_cons, List.length_cons]
    have h1 := ih (appA A x)
    have h2 : (appA A x).length ≤ A.length + 1 := by unfold appA; rw [putA_len]; split <;> omega
    omega
theorem OnD.keys {fm : Int → Option FileM} {first : Int} {A C : List WSeg} (h : OnD fm first A C) : ∀ k, (fm k).isSome = true → k ∈ segN first A.length := fun k hk => by
  rw [h k] at hk; unfold flW at hk
  rw [segN_mem]
  by_cases hl : first ≤ k
  · rw [if_pos hl] at hk
    by_cases hs : (A[(k - first).toNat]?).isSome = true
    · have := (List.getElem?_eq_some_iff.1 (Option.isSome_iff_exists.1 hs).choose_spec).1; omega
    · rw [if_neg hs] at hk; cases hk
  · rw [if_neg hl] at hk; cases hk
/-- A disk that bears just a log: A's segments are safe, xs came since; m calls at most. -/
def WlO (base : Nat) (w : World) (d m : Nat) (first : Int) (A : List WSeg) (xs : List ByteArray) : Prop :=
  ∃ s, DObj base w d (xs.foldl appA A).length s ∧ WSt s first A xs ∧ DkI s m ∧ 0 ≤ s.boots ∧ s.boots ≤ (m : Int) + 1 ∧ A.length + xs.length ≤ m ∧ (txtA A).length + xs.length ≤ m ∧ 1 ≤ first ∧ first ≤ 1000000000
section
variable {base d m N : Nat} {n0 : Int} {first : Int} {A : List WSeg} {xs : List ByteArray} {w x : World}
theorem WlO.new (h : WlO base w d m first A xs) (hg : w.grownBy x none) : WlO base x d m first A xs := by obtain ⟨s, h1, h2⟩ := h; exact ⟨s, h1.new hg, h2⟩
theorem WlO.call (h : WlO base w d m first A xs) (hb : Below w.heap.size w x) : WlO base x d m first A xs := by obtain ⟨s, h1, h2⟩ := h; exact ⟨s, h1.call hb, h2⟩
theorem WlO.at {T : TypeId} {cs : Array Value} (h : WlO base w d m first A xs) (hb : Blk w N T cs) (hT : offD T) (hg : w.grownBy x (some N)) : WlO base x d m first A xs := by obtain ⟨s, h1, h2⟩ := h; exact ⟨s, h1.at hb hT hg, h2⟩
theorem WlO.row {B sz k : Nat} {e : TypeId} {v : Value} {ys : List Value} (h : WlO base w d m first A xs) (hr : w.ownsRow B e sz v k ys) (hT : offD e) (hg : w.grownBy x v.ownBlock) : WlO base x d m first A xs := by obtain ⟨s, h1, h2⟩ := h; exact ⟨s, h1.row hr hT hg, h2⟩
theorem WlO.up {m' : Nat} (h : WlO base w d m first A xs) (hm : m ≤ m') : WlO base w d m' first A xs := by
  obtain ⟨s, h1, h2, h3, h4, h5, h6, h7, h8⟩ := h; exact ⟨s, h1, h2, h3.up hm, h4, by omega, by omega, by omega, h8⟩
theorem WlO.eq {A' : List WSeg} {xs' : List ByteArray} (h : WlO base w d m first A xs) (e1 : A = A') (e2 : xs = xs') : WlO base w d m first A' xs' := by subst e1 e2; exact h
theorem WlO.len (h : WlO base w d m first A xs) : A.length + xs.length ≤ m ∧ (txtA A).length + xs.length ≤ m := by obtain ⟨s, h1, h2, h3, h4, h5, h6, h7, h8⟩ := h; exact ⟨h6, h7⟩
def WlX (base : Nat) (w : World) (d m : Nat) (first : Int) (A : List WSeg) (xs : List ByteArray) (s : DkS) : Prop :=
  DObj base w d (xs.foldl appA A).length s ∧ WSt s first A xs ∧ DkI s m ∧ 0 ≤ s.boots ∧ s.boots ≤ (m : Int) + 1 ∧ A.length + xs.length ≤ m ∧ (txtA A).length + xs.length ≤ m ∧ 1 ≤ first ∧ first ≤ 1000000000
theorem WlX.logR {s : DkS} (h : WlX base w d m first A xs s) (hm : m ≤ 900) (ht : Tab w) (hb : 0 < base) : LogR base d (xs.foldl appA A).length s first (xs.foldl appA A) w ∧ hereA first (xs.foldl appA A) ≤ first + (m : Int) := by
  obtain ⟨h1, h2, h3, h4, h5, h6, h7, h8, h9⟩ := h
  have hl := run_len xs A
  refine ⟨⟨h1, by omega, h2.logs, ⟨h8, by omega⟩, by omega, fun y hy => ?_, ?_, ht, hb⟩, ?_⟩
  · obtain ⟨i, hi⟩ := List.getElem?_of_mem hy
    have h10 := h3.len (first + (i : Int))
    rw [((h2.logs).2 i).2] at h10
    unfold bytA at h10
    rw [hi] at h10
    have h11 : ((y.b.data.toList.length : Nat) : Int) ≤ m * 1048576 := h10
    rw [list_len] at h11
    omega
  · rw [txt_run, List.length_append]; omega
  · have := at_le (xs.foldl appA A); unfold hereA; omega
theorem here_ok (h1 : 1 ≤ first) (h : hereA first A ≤ 1073741824) : wrE (hereA first A) = 0 := by
  unfold wrE; rw [if_neg]; unfold hereA at h ⊢; omega
theorem wlNew (base : Nat) (first : Int) (w : World) (hb : base ≤ w.heap.size) (hf : 1 ≤ first ∧ first ≤ 1000000000) : Calls Tryd.prog 10 #[] w fun e w' => ∃ N, e = .returned (pt N 0) ∧ WlO base w' N 0 first [] [] ∧ Below w.heap.size w w' :=
  (tNew base w hb).mono fun e x ⟨N, h1, h2, h3⟩ => ⟨N, h1, ⟨s0D, h2, ⟨fun k => by unfold flW; simp [s0D], rfl, (fun y hy => by cases hy), (fun y hy => by cases hy)⟩, s0_I, by decide, by decide, Nat.le_refl _, Nat.le_refl _, hf⟩, h3⟩
theorem wlOpen (w : World) (h : WlO base w d m first A xs) (hm : m ≤ 900) (ht : Tab w) (hb : 0 < base) : Calls Tryd.prog 11 #[pt d 0, .int .i64 first] w fun e w' => ∃ (N : Nat) (u : Value), e = .returned (.tuple #[pt N 0, u, .int .i64 0]) ∧ Blk w' N 41 #[.bool true, pt d 0, .int .i64 first] ∧ w'.ownsRow w.heap.size 9 1 u (txtA A ++ xs).length ((txtA A ++ xs).flatMap strE) ∧ WlO base w' d m first A xs ∧ ButD base w w' := by
  obtain ⟨s, hX⟩ := h
  have hX : WlX base w d m first A xs s := hX
  obtain ⟨hR, -⟩ := hX.logR hm ht hb
  refine (wopen_any first _ w hR).mono ?_
  rintro e x ⟨N, u, k1, k2, k3, k4, k5⟩
  rw [txt_run] at k3
  exact ⟨N, u, k1, k2, k3, ⟨s, k4, hX.2⟩, k5⟩
theorem wlHere (w : World) (h : WlO base w d m first A xs) (hm : m ≤ 900) (ht : Tab w) (hb : 0 < base) : Calls Tryd.prog 33 #[pt d 0, .int .i64 first] w fun e w' => e = .returned (.int .i64 (hereA first (xs.foldl appA A))) ∧ WlO base w' d m first A xs ∧ ButD base w w' := by
  obtain ⟨s, hX⟩ := h
  have hX : WlX base w d m first A xs s := hX
  obtain ⟨hR, -⟩ := hX.logR hm ht hb
  exact (here_any first _ w hR).mono fun e x ⟨k1, k2, k3⟩ => ⟨k1, ⟨s, k2, hX.2⟩, k3⟩
theorem frameB_le {t : ByteArray} (ht : t.size ≤ 65536) : (frameB t).size ≤ 65600 := by
  have h1 := numB_size t
  have h2 : (frameB t).size = (numB t).size + 4 + t.size := by
    unfold frameB; rw [bsz_app, bsz_app]; rfl
  omega
theorem wlWrite (w : World) (t : ByteArray) (h : WlO base w d m first A xs) (hm : m ≤ 800) (ht : t.size ≤ 65536) : Calls Tryd.prog 28 #[pt d 0, .int .i64 (hereA first (xs.foldl appA A)), .string (frameB t)] w fun e w' => e = .returned (.int .i64 0) ∧ WlO base w' d (m + 1) first A (xs ++ [t]) ∧ ButD base w w' := by
  obtain ⟨s, h1, h2, h3, h4, h5, h6, h7, h8, h9⟩ := h
  have hfr := frameB_le ht
  have hh : hereA first (xs.foldl appA A) ≤ first + (m : Int) := by have := at_le (xs.foldl appA A); have := run_len xs A; unfold hereA; omega
  have hw := here_ok h8 (A := xs.foldl appA A) (by omega)
  refine (tWrite w (hereA first (xs.foldl appA A)) (frameB t) h1 (h3.hsz (by omega) _ (by omega)) (h3.hpl (by omega))).mono ?_
  rintro e x ⟨k1, k2, k3⟩
  rw [hw] at k1
  have h2' := h2.write ht hw
  have hk := k2.tight (h2'.on.keys)
  rw [segN_len] at hk
  refine ⟨k1, ⟨_, hk, h2', h3.write _ _ (by omega), ?_, ?_, by simp; omega, by simp; omega, h8, h9⟩, k3⟩
  · unfold wrS; split <;> exact h4
  · have : (wrS s (hereA first (xs.foldl appA A)) (frameB t)).boots = s.boots := by unfold wrS; split <;> rfl
    rw [this]; omega
theorem wlSync (w : World) (h : WlO base w d m first A xs) (hm : m ≤ 900) : Calls Tryd.prog 13 #[pt d 0] w fun e w' => ∃ k : Int, e = .returned (.int .i64 k) ∧ WlO base w' d (m + 1) first (xs.foldl appA A) [] ∧ ButD base w w' := by
  obtain ⟨s, h1, h2, h3, h4, h5, h6, h7, h8, h9⟩ := h
  refine (tSync w h1 (h3.hsb hm)).mono ?_
  rintro e x ⟨k1, k2, k3⟩
  have h2' := h2.sync
  have hk := k2.tight (h2'.on.keys)
  rw [segN_len] at hk
  have hl := run_len xs A
  refine ⟨_, k1, ⟨_, hk, h2', h3.sync.1.up (Nat.le_succ m), h4, by show s.boots ≤ ((m + 1 : Nat) : Int) + 1; omega, by simp; omega, by rw [txt_run]; simp; omega, h8, h9⟩, k3⟩
theorem getF_tr (fm : Int → Option FileM) (k : Int) : (getF (trF fm) k).1.length ≤ (getF fm k).1.length := by
  unfold getF trF
  cases h : fm k with
  | none => exact Nat.le_refl _
  | some f =>
    show ((trM f).getD mz).1.length ≤ f.1.length
    unfold trM
    split
    · show (f.1.take _).length ≤ _; rw [List.length_take]; omega
    · exact Nat.zero_le _
theorem DkI.crashW {s : DkS} {E : List WSeg} (h : DkI s m) (hE : WSt (crS s n0) first E []) : DkI (crS s n0) m := by
  have hk : ∀ k, ((getF (crS s n0).fm k).1.length : Int) ≤ m * 1048576 := fun k => by
    have h1 := getF_tr (crRun n0 s.fm s.ps).2.2 k
    obtain ⟨-, h2⟩ := crRun_all (n := n0) (fm := s.fm) h.pos
    rw [(h2 k).1] at h1
    have h3 := h.len k
    have h4 : (getF (crS s n0).fm k).1.length ≤ (getF s.fm k).1.length := h1
    omega
  have hf : ∀ k, (getF (crS s n0).fm k).2.1 = ((getF (crS s n0).fm k).1.length : Int) ∧ (((crS s n0).fm k).isSome = true → (getF (crS s n0).fm k).2.2 = true) := fun k => by
    have h1 := hE.on k
    unfold getF; rw [h1]; unfold flW
    by_cases hl : first ≤ k
    · rw [if_pos hl]
      by_cases hs : ((([] : List ByteArray).foldl appA E)[(k - first).toNat]?).isSome = true
      · rw [if_pos hs]; exact ⟨rfl, fun _ => hs⟩
      · rw [if_neg hs]; exact ⟨rfl, fun h => by cases h⟩
    · rw [if_neg hl]; exact ⟨rfl, fun h => by cases h⟩
  refine ⟨hk, fun p hp => (by cases hp), fun k => ?_, fun k => ?_, ?_, Nat.zero_le _, fun k hk2 => .inl ((hf k).2 hk2)⟩
  · show _ + sumK [] k = _
    rw [(hf k).1]; simp [sumK]
  · rw [(hf k).1]; omega
  · show sumP [] ≤ _
    simp [sumP]; omega
theorem wlCrash (w : World) (n : Int) (hn : -9223372036854775808 ≤ n ∧ n ≤ 9223372036854775807) (h : WlO base w d m first A xs) (hm : m ≤ 900) : Calls Tryd.prog 14 #[pt d 0, .int .i64 n] w fun e w' => ∃ (j : Nat) (E : List WSeg), e = .returned (.tuple #[]) ∧ (j ≤ xs.length ∧ txtA E = txtA A ++ xs.take j) ∧ WlO base w' d (m + 1) first E [] ∧ ButD base w w' := by
  obtain ⟨s, h1, h2, h3, h4, h5, h6, h7, h8, h9⟩ := h
  have hl := run_len xs A
  refine (tCrash w n h1 (by omega) (h3.hpl hm) ⟨h4, by omega⟩ hn (h3.hcr hm hn) h3.hfin).mono ?_
  rintro e x ⟨k1, k2, k3⟩
  obtain ⟨j, E, j1, j2, j3, j4⟩ := h2.crash n
  have hk := k2.tight (j4.on.keys)
  rw [segN_len] at hk
  refine ⟨j, E, k1, ⟨j1, j2⟩, ⟨_, hk, j4, (h3.crashW j4).up (Nat.le_succ m), ?_, ?_, by simp; omega, ?_, h8, h9⟩, k3⟩
  · show 0 ≤ s.boots + 1; omega
  · show s.boots + 1 ≤ ((m + 1 : Nat) : Int) + 1; omega
  · rw [j2, List.length_append, List.length_take]; simp; omega
end
end Go.Proofs.YtfiplhnplmadmaaDoor

/- Package wal: Append, Last, Read on a log. Conditions: at most 800 calls. -/
namespace Go.Proofs.YtfiplhnplmadmaaDoor
open Go.RowKit Go.PlainAid Go.Shelf
set_option linter.unusedVariables false
section
variable {base d m N : Nat} {first : Int} {A : List WSeg} {xs : List ByteArray} {w x : World}
set_option maxRecDepth 100000 in
set_option maxHeartbeats 4000000 in
theorem wlLast (w : World) (hW : Blk w N 41 #[.bool true, pt d 0, .int .i64 first]) (h : WlO base w d m first A xs) (hm : m ≤ 900) (ht : Tab w) (hb : 0 < base) : Calls Tryd.prog 17 #[pt N 0] w fun e w' => e = .returned (.int .i64 (hereA first (xs.foldl appA A))) ∧ WlO base w' d m first A xs ∧ ButD base w w' := by
  have c0 := hW.cell (k := 0) rfl; have c1 : w.cell? ⟨N, 1, none⟩ = some (.pointer (some ⟨d, 0, none⟩)) := hW.cell (k := 1) rfl; have c2 := hW.cell (k := 2) rfl
  have HO := Lib.hid h; have HT := Lib.hid ht; have HM := Lib.hid hm
  clear h ht hW hm
  go_enter Tryd.func17, Tryd.ntmps17
  simp only [pt]
  go_wp2_with fail
  go_region_law (first | (go_simp; go_at_call 33; refine (wlHere _ (HO.out.new (drew_grown _)) HM.out (HT.out.below (grown_below (drew_grown _))) hb).mono ?_; rintro e w2 ⟨rfl, h2, hb2⟩))
  all_goals (go_wp2; go_ret; exact ⟨rfl, h2, butD_tr (But.of_below (grown_below (drew_grown _))) hb2⟩)
set_option maxRecDepth 100000 in
set_option maxHeartbeats 4000000 in
theorem wlRead (w : World) (h : WlO base w d m first A xs) (hm : m ≤ 900) (ht : Tab w) (hb : 0 < base) : Calls Tryd.prog 16 #[pt d 0, .int .i64 first] w fun e w' => ∃ u, e = .returned (.tuple #[u, .int .i64 (hereA first (xs.foldl appA A))]) ∧ w'.ownsRow w.heap.size 9 1 u (txtA A ++ xs).length ((txtA A ++ xs).flatMap strE) ∧ WlO base w' d m first A xs ∧ ButD base w w' := by
  have HO := Lib.hid h; have HT := Lib.hid ht; have HM := Lib.hid hm
  clear h ht hm
  go_enter Tryd.func16, Tryd.ntmps16
  simp only [pt]
  go_wp2_with fail
  refine (wlOpen w HO.out HM.out HT.out hb).mono ?_
  rintro e w1 ⟨N, u, rfl, hW, hr, h1, hb1⟩
  have HW := Lib.hid hW; have HR := Lib.hid hr; have H1 := Lib.hid h1; have HB1 := Lib.hid hb1
  clear hW hr h1 hb1
  go_wp2_with fail
  refine (wlLast w1 HW.out H1.out HM.out (tab_butD HT.out HB1.out hb) hb).mono ?_
  rintro e w2 ⟨rfl, h2, hb2⟩
  have HR2 := Lib.hid (rowD HR.out (by decide) hb2); have H2 := Lib.hid h2; have HB2 := Lib.hid (butD_tr HB1.out hb2)
  clear h2 hb2
  go_wp2
  go_ret2
  exact ⟨_, rfl, HR2.out, H2.out, HB2.out⟩
set_option maxRecDepth 100000 in
set_option maxHeartbeats 4000000 in
theorem wlAppend (w : World) (t : ByteArray) (hW : Blk w N 41 #[.bool true, pt d 0, .int .i64 first]) (h : WlO base w d m first A xs) (hm : m ≤ 800) (ht : Tab w) (hb : 0 < base) (hsz : t.size ≤ 65536) : Calls Tryd.prog 12 #[pt N 0, .string t] w fun e w' => e = .returned (.int .i64 0) ∧ WlO base w' d (m + 1) first A (xs ++ [t]) ∧ ButD base w w' := by
  have c0 := hW.cell (k := 0) rfl; have c1 : w.cell? ⟨N, 1, none⟩ = some (.pointer (some ⟨d, 0, none⟩)) := hW.cell (k := 1) rfl; have c2 := hW.cell (k := 2) rfl
  have HO := Lib.hid h; have HT := Lib.hid ht; have HM := Lib.hid hm; have HW := Lib.hid hW
  clear h ht hW hm
  go_enter Tryd.func12, Tryd.ntmps12
  simp only [pt]
  go_wp2_with fail
  refine (put_frame t w HT.out (by omega)).mono ?_
  rintro e w1 ⟨rfl, hb1⟩
  have e1 : putR t = (frameB t, 0) := by unfold putR; rw [if_neg (by omega)]
  rw [e1]; unfold putV
  have HB1 := Lib.hid hb1; have H1 := Lib.hid (HO.out.call hb1); have HT1 := Lib.hid (HT.out.below hb1)
  have hW1 := HW.out.below hb1
  have d1 := hW1.cell (k := 1) rfl; have d2 := hW1.cell (k := 2) rfl
  simp only [pt] at d1
  have HW1 := Lib.hid hW1
  clear hb1 e1 hW1 c0 c1 c2
  dsimp only
  go_wp2_with fail
  go_region_law (first | (go_simp; go_at_call 33; refine (wlHere _ (H1.out.new (drew_grown _)) (by have := HM.out; omega) (HT1.out.below (grown_below (drew_grown _))) hb).mono ?_; rintro e w2 ⟨rfl, h2, hb2⟩; have HW2 := HW1.out.below (grown_below (drew_grown _)); have hq := Blk.grW HW2 (by decide) hb2; have k1 := hq.cell (k := 1) rfl; have k2 := hq.cell (k := 2) rfl; simp only [pt] at k1; have H2 := Lib.hid h2; have HB2 := Lib.hid hb2; clear h2 hb2 hq HW2) | (go_simp; go_at_call 28; refine (wlWrite _ t H2.out HM.out hsz).mono ?_; rintro e w3 ⟨rfl, h3, hb3⟩))
  all_goals (go_wp2; go_ret; exact ⟨rfl, h3, butD_tr (butD_tr (But.of_below HB1.out) (butD_tr (But.of_below (grown_below (drew_grown _))) HB2.out)) hb3⟩)
end
end Go.Proofs.YtfiplhnplmadmaaDoor

/- catenalaw12: short, awake; lists of texts that read alike. Conditions: a laid table. -/
namespace Go.Proofs.YtfiplhnplmadmaaDoor
open Go.RowKit Go.PlainAid
set_option linter.unusedVariables false
set_option linter.unusedSimpArgs false


theorem strE_lenW (y : ByteArray) : (strE y).length = 1 := rfl
/-- A call of stage 12. -/
structure WActT where
  k : Int
  s : ByteArray
  n : Int
  file : Int
instance : Inhabited WActT := ⟨⟨0, ⟨#[]⟩, 0, 0⟩⟩
def wactE (a : WActT) : List Value := [.int .i64 a.k, .string a.s, .int .i64 a.n, .int .i64 a.file]
def WActOk (a : WActT) : Prop := -9223372036854775808 ≤ a.n ∧ a.n ≤ 9223372036854775807
def shortW (l : List WActT) : Bool := (l.take 40).all fun a => decide (a.s.size ≤ 300)
def shTo (l : List WActT) (i : Nat) : Prop := ∀ j, j < i → ∀ y, l[j]? = some y → y.s.size ≤ 300
theorem shTo_0 (l : List WActT) : shTo l 0 := fun j hj => by omega
theorem shTo_next {l : List WActT} {i : Nat} {y : WActT} (h : shTo l i) (hy : l[i]? = some y) (hs : y.s.size ≤ 300) : shTo l (i + 1) := fun j hj z hz => by
  by_cases e : j = i
  · subst e; rw [hy] at hz; cases hz; exact hs
  · exact h j (by omega) z hz
theorem short_y {l : List WActT} {i : Nat} (h : shTo l i) (hi : l.length ≤ i ∨ 40 ≤ i) : true = shortW l := by
  unfold shortW; symm; rw [List.all_eq_true]
  intro a ha
  obtain ⟨j, hj⟩ := List.getElem?_of_mem ha
  rw [List.getElem?_take] at hj
  by_cases h4 : j < 40
  · rw [if_pos h4] at hj
    have hl := (List.getElem?_eq_some_iff.1 hj).1
    exact decide_eq_true (h j (by omega) a hj)
  · rw [if_neg h4] at hj; cases hj
theorem short_n {l : List WActT} {i : Nat} {y : WActT} (hy : l[i]? = some y) (h4 : i < 40) (hs : 300 < y.s.size) : false = shortW l := by
  unfold shortW; symm; rw [List.all_eq_false]
  exact ⟨y, List.mem_of_getElem? (i := i) (by rw [List.getElem?_take, if_pos h4]; exact hy), by simp; omega⟩
theorem short_at {l : List WActT} (h : shortW l = true) {i : Nat} {y : WActT} (hy : l[i]? = some y) (h4 : i < 40) : y.s.size ≤ 300 := by
  unfold shortW at h; rw [List.all_eq_true] at h
  have := h y (List.mem_of_getElem? (i := i) (by rw [List.getElem?_take, if_pos h4]; exact hy))
  simpa using this
theorem cut_eq {A E : List WSeg} {xs : List ByteArray} {j : Nat} (hj : j ≤ xs.length ∧ txtA E = txtA A ++ xs.take j) {n : Nat} (hn : n = (txtA E ++ ([] : List ByteArray)).length) : (txtA A ++ xs).take n = txtA E ++ ([] : List ByteArray) := by
  rw [List.append_nil] at hn ⊢
  rw [hj.2] at hn ⊢
  rw [List.length_append, List.length_take] at hn
  rw [List.take_append, List.take_of_length_le (by omega), hn]
  congr 1
  rw [show (txtA A).length + min j xs.length - (txtA A).length = j by omega]
theorem sl_castW {w : World} {v : Value} {l l' : List ByteArray} (h : SliceOf strE 1 w v l) (e : l = l') : SliceOf strE 1 w v l' := e ▸ h
def aW : ByteArray := ⟨#[97]⟩
theorem aw_A : (([] : List ByteArray) ++ [aW]).foldl appA ([] : List WSeg) = [⟨[aW], ⟨#[]⟩⟩] := by rfl
theorem aw_here : hereA 1 ((([] : List ByteArray) ++ [aW]).foldl appA ([] : List WSeg)) = 1 := by
  rw [aw_A]
  unfold hereA atA
  have hs : (WSeg.mk [aW] ⟨#[]⟩).b.size ≤ 20 := by
    unfold WSeg.b
    rw [bapp_nil]
    have e : catF [aW] = (⟨#[]⟩ : ByteArray) ++ frameB aW := rfl
    rw [e, bsz_app]
    have h1 := numB_size aW
    have h2 : (frameB aW).size = (numB aW).size + 4 + aW.size := by unfold frameB; rw [bsz_app, bsz_app]; rfl
    have h3 : aW.size = 1 := rfl
    have h4 : (⟨#[]⟩ : ByteArray).size = 0 := rfl
    omega
  have hf : fullS ⟨[aW], ⟨#[]⟩⟩ = false := by
    unfold fullS; rw [decide_eq_false (by omega)]; rfl
  show 1 + (((if fullS ⟨[aW], ⟨#[]⟩⟩ = true then 1 else 1 - 1 : Nat)) : Int) = 1
  rw [hf]; rfl
theorem aw_hereL : hereA 1 ((([] : List ByteArray) ++ [(⟨#[97]⟩ : ByteArray)]).foldl appA ([] : List WSeg)) = 1 := aw_here
theorem aw_get {y : ByteArray} (h : (txtA ([] : List WSeg) ++ (([] : List ByteArray) ++ [(⟨#[97]⟩ : ByteArray)]))[0]? = some y) : y = ⟨#[97]⟩ := by
  simp [txtA] at h; exact h.symm

set_option maxRecDepth 100000 in
theorem sameStr_any (u : Value) (v : Value) (l : List ByteArray) (w : World) (hu : SliceOf strE 1 w u l) (hv : SliceOf strE 1 w v l) :
    Calls Tryd.prog 15 #[u, v] w fun e w' => e = .returned (.bool true) ∧ Below w.heap.size w w' := by
 have hB0 := Below.refl w.heap.size w
 have hl_hu := sl_len hu
 have hl_hv := sl_len hv
 refine co_enter (n := 32) Tryd.func15 rfl rfl rfl [(0, u), (1, v)] rfl (fun a h0 => ?_)
 refine co_seq ?_
 refine co_reg ?_
 refine pk0 (v := .bool false) h0 rfl fun a1 h1 => ?_; clear h0
 refine pl_nil ?_
 refine co_then ?_
 refine co_seq ?_
 refine co_seq ?_
 refine co_reg ?_
 refine pk0 (v := u) h1 rfl fun a2 h2 => ?_; clear h1
 refine pk (v := .int .i64 ((l.length : Nat) : Int)) h2 rfl (rn_len rfl rfl Tryd.underlying28 hu) fun a3 h3 => ?_; clear h2
 refine pk0 (v := v) h3 rfl fun a4 h4 => ?_; clear h3
 refine pk (v := .int .i64 ((l.length : Nat) : Int)) h4 rfl (rn_len rfl rfl Tryd.underlying28 hv) fun a5 h5 => ?_; clear h4
 refine pk0 (v := .bool (((l.length : Nat) : Int) != ((l.length : Nat) : Int))) h5 rfl fun a6 h6 => ?_; clear h5
 refine pl_nil ?_
 refine co_then ?_
 have hc7 : (((l.length : Nat) : Int) != ((l.length : Nat) : Int)) = false := by first | (simp; done) | (simp; omega) | exact beq_false_of_ne (by omega) | exact beq_iff_eq.2 (by omega)
 rw [hc7] at h6; clear hc7
 refine co_false h6 rfl ?_
 refine wp_skip ?_
 refine co_then ?_
 refine co_seq ?_
 refine co_seq ?_
 refine co_reg ?_
 refine pk0 (v := .int .i64 0) h6 rfl fun a8 h8 => ?_; clear h6
 refine pl_nil ?_
 refine co_then ?_
 refine wp_block ?_
 have h9 : Slots 32 [(0, u), (1, v), (5, .int .i64 0)] _ := h8.sub ⟨rfl, rfl, rfl, trivial⟩; clear h8
 refine co_loop (fun mm a x => ∃ (i : Nat), Slots 32 [(0, u), (1, v), (5, .int .i64 ((i : Nat) : Int))] a ∧ mm = l.length - i ∧ (i ≤ l.length) ∧ Below w.heap.size w x) (l.length - 0) ?_ ?_
 · exact ⟨0, h9.sub ⟨rfl, rfl, (slot_eq rfl (congrArg (Value.int .i64) (by first | rfl | omega))), trivial⟩, rfl, by omega, hB0⟩
 · rintro k10 a11 w12 ⟨i, h11, rfl, hi13, hB14⟩
   have hz15 := hB14.size
   refine co_seq ?_
   refine co_seq ?_
   refine co_reg ?_
   refine pk0 (v := .int .i64 ((i : Nat) : Int)) h11 rfl fun a16 h16 => ?_; clear h11
   refine pk0 (v := u) h16 rfl fun a17 h17 => ?_; clear h16
   refine pk (v := .int .i64 ((l.length : Nat) : Int)) h17 rfl (rn_len rfl rfl Tryd.underlying28 (hu.below hB14)) fun a18 h18 => ?_; clear h17
   refine pk0 (v := .bool (decide (((i : Nat) : Int) < ((l.length : Nat) : Int)))) h18 rfl fun a19 h19 => ?_; clear h18
   refine pk0 (v := .bool (decide (((i : Nat) : Int) < ((l.length : Nat) : Int)))) h19 rfl fun a20 h20 => ?_; clear h19
   cases hc21 : (decide (((i : Nat) : Int) < ((l.length : Nat) : Int)))
   ·
    rw [hc21] at h20
    have hp22 : ¬ (((i : Nat) : Int) < ((l.length : Nat) : Int)) := of_decide_eq_false hc21
    clear hc21
    refine psk h20 rfl fun a23 h23 => ?_; clear h20
    refine psk h23 rfl fun a24 h24 => ?_; clear h23
    refine psk h24 rfl fun a25 h25 => ?_; clear h24
    refine psk h25 rfl fun a26 h26 => ?_; clear h25
    refine pk0 (v := .bool false) h26 rfl fun a27 h27 => ?_; clear h26
    refine pl_nil ?_
    refine co_then ?_
    refine co_false h27 rfl ?_
    refine wp_exit ?_
    refine co_thenX ?_
    refine co_thenX ?_
    refine co_blockX ?_
    refine co_then ?_
    refine co_seq ?_
    refine co_reg ?_
    refine pk0 (v := .bool true) h27 rfl fun a28 h28 => ?_; clear h27
    refine pl_nil ?_
    refine co_then ?_
    refine wp_ret ?_
    refine co_ret1 h28 rfl rfl ?_
    exact ⟨rfl, hB14⟩
   ·
    rw [hc21] at h20
    have hp29 : ((i : Nat) : Int) < ((l.length : Nat) : Int) := of_decide_eq_true hc21
    clear hc21
    refine pk0 (v := .int .i64 ((i : Nat) : Int)) h20 rfl fun a30 h30 => ?_; clear h20
    refine pk0 (v := v) h30 rfl fun a31 h31 => ?_; clear h30
    refine pk (v := .int .i64 ((l.length : Nat) : Int)) h31 rfl (rn_len rfl rfl Tryd.underlying28 (hv.below hB14)) fun a32 h32 => ?_; clear h31
    refine pk0 (v := .bool (decide (((i : Nat) : Int) < ((l.length : Nat) : Int)))) h32 rfl fun a33 h33 => ?_; clear h32
    refine pk0 (v := .bool (decide (((i : Nat) : Int) < ((l.length : Nat) : Int)))) h33 rfl fun a34 h34 => ?_; clear h33
    refine pl_nil ?_
    refine co_then ?_
    have hc35 : (decide (((i : Nat) : Int) < ((l.length : Nat) : Int))) = true := decide_eq_true (by omega)
    rw [hc35] at h34; clear hc35
    refine co_true h34 rfl ?_
    refine wp_skip ?_
    refine co_then ?_
    refine co_seq ?_
    refine wp_block ?_
    refine co_seq ?_
    refine dr_eq (by kernel_rfl) (fun w36 hg37 => ?_)
    have hz38 := hg37.size
    refine dk0 0 (v := u) h34 rfl rfl rfl fun a39 h39 => ?_; clear h34
    refine dk0 1 (v := .int .i64 ((i : Nat) : Int)) h39 rfl rfl rfl fun a40 h40 => ?_; clear h39
    have hB42 := hb_new hB14 hg37
    obtain ⟨y41, hy41⟩ : ∃ z, l[i]? = some z := ⟨_, List.getElem?_eq_getElem (by first | omega | (simp; done) | (simp; omega))⟩
    refine dk 2 (v := pt (blkOf u) (offOf u + i * 1)) h40 rfl rfl rfl (fun x hx => by subst hx; exact (rn_index rfl rfl rfl Tryd.underlying28 Tryd.sizeOf9 (hu.below hB42) (by omega) (by first | omega | (simp; done) | (simp; omega)))) fun a43 h43 => ?_; clear h40
    refine dk 3 (v := .string y41) h43 rfl rfl rfl (fun x hx => by subst hx; exact (rn_load1 rfl rfl Tryd.isAgg9 ((sl_at (hu.below hB42) hy41) 0 _ rfl))) fun a44 h44 => ?_; clear h43
    refine dk0 4 (v := v) h44 rfl rfl rfl fun a45 h45 => ?_; clear h44
    refine dk0 5 (v := .int .i64 ((i : Nat) : Int)) h45 rfl rfl rfl fun a46 h46 => ?_; clear h45
    refine dk 6 (v := pt (blkOf v) (offOf v + i * 1)) h46 rfl rfl rfl (fun x hx => by subst hx; exact (rn_index rfl rfl rfl Tryd.underlying28 Tryd.sizeOf9 (hv.below hB42) (by omega) (by first | omega | (simp; done) | (simp; omega)))) fun a47 h47 => ?_; clear h46
    refine dk 7 (v := .string y41) h47 rfl rfl rfl (fun x hx => by subst hx; exact (rn_load1 rfl rfl Tryd.isAgg9 ((sl_at (hv.below hB42) hy41) 0 _ rfl))) fun a48 h48 => ?_; clear h47
    refine dk0 8 (v := .bool (!(y41.toList == y41.toList))) h48 rfl rfl rfl fun a49 h49 => ?_; clear h48
    refine dr_done (by kernel_rfl) ?_
    refine co_then ?_
    have hc50 : (!(y41.toList == y41.toList)) = false := by simp
    rw [hc50] at h49; clear hc50
    refine co_false h49 rfl ?_
    refine wp_skip ?_
    refine co_blockN ?_
    refine co_then ?_
    refine co_reg ?_
    refine pk0 (v := .int .i64 ((i : Nat) : Int)) h49 rfl fun a51 h51 => ?_; clear h49
    refine pk (v := .int .i64 ((i + 1 : Nat) : Int)) h51 rfl (rn_arith' rfl rfl rfl rfl rfl rfl (IntWalk.i64_in _ (by omega)) (by omega)) fun a52 h52 => ?_; clear h51
    refine pk0 (v := .int .i64 ((i + 1 : Nat) : Int)) h52 rfl fun a53 h53 => ?_; clear h52
    refine pl_nil ?_
    refine co_then ?_
    refine ⟨(l.length - (i + 1)), by omega, ?_⟩
    exact ⟨i + 1, h53.sub ⟨rfl, rfl, rfl, trivial⟩, rfl, by omega, hB42⟩
set_option maxRecDepth 100000 in
theorem short12_any (v : Value) (l : List WActT) (w : World) (hs : SliceOf wactE 4 w v l) :
    Calls Tryd.prog 8 #[v] w fun e w' => e = .returned (.bool (shortW l)) ∧ Below w.heap.size w w' := by
 have hB0 := Below.refl w.heap.size w
 have hl_hs := sl_len hs
 refine co_enter (n := 21) Tryd.func8 rfl rfl rfl [(0, v)] rfl (fun a h0 => ?_)
 refine co_seq ?_
 refine co_reg ?_
 refine pk0 (v := .bool false) h0 rfl fun a1 h1 => ?_; clear h0
 refine pl_nil ?_
 refine co_then ?_
 refine co_seq ?_
 refine co_seq ?_
 refine co_reg ?_
 refine pk0 (v := .int .i64 0) h1 rfl fun a2 h2 => ?_; clear h1
 refine pl_nil ?_
 refine co_then ?_
 refine wp_block ?_
 have h3 : Slots 21 [(0, v), (3, .int .i64 0)] _ := h2.sub ⟨rfl, rfl, trivial⟩; clear h2
 refine co_loop (fun mm a x => ∃ (i : Nat), Slots 21 [(0, v), (3, .int .i64 ((i : Nat) : Int))] a ∧ mm = l.length - i ∧ (i ≤ l.length) ∧ (i ≤ 40) ∧ (shTo l i) ∧ Below w.heap.size w x) (l.length - 0) ?_ ?_
 · exact ⟨0, h3.sub ⟨rfl, (slot_eq rfl (congrArg (Value.int .i64) (by first | rfl | omega))), trivial⟩, rfl, by omega, by omega, by first | exact shTo_0 _ | exact shTo_next (by assumption) (by assumption) (by omega), hB0⟩
 · rintro k4 a5 w6 ⟨i, h5, rfl, hi7, hi8, hi9, hB10⟩
   have hz11 := hB10.size
   refine co_seq ?_
   refine co_seq ?_
   refine co_reg ?_
   refine pk0 (v := .int .i64 ((i : Nat) : Int)) h5 rfl fun a12 h12 => ?_; clear h5
   refine pk0 (v := v) h12 rfl fun a13 h13 => ?_; clear h12
   refine pk (v := .int .i64 ((l.length : Nat) : Int)) h13 rfl (rn_len rfl rfl Tryd.underlying22 (hs.below hB10)) fun a14 h14 => ?_; clear h13
   refine pk0 (v := .bool (decide (((i : Nat) : Int) < ((l.length : Nat) : Int)))) h14 rfl fun a15 h15 => ?_; clear h14
   refine pk0 (v := .bool (decide (((i : Nat) : Int) < ((l.length : Nat) : Int)))) h15 rfl fun a16 h16 => ?_; clear h15
   cases hc17 : (decide (((i : Nat) : Int) < ((l.length : Nat) : Int)))
   ·
    rw [hc17] at h16
    have hp18 : ¬ (((i : Nat) : Int) < ((l.length : Nat) : Int)) := of_decide_eq_false hc17
    clear hc17
    refine psk h16 rfl fun a19 h19 => ?_; clear h16
    refine psk h19 rfl fun a20 h20 => ?_; clear h19
    refine pk0 (v := .bool false) h20 rfl fun a21 h21 => ?_; clear h20
    refine pl_nil ?_
    refine co_then ?_
    refine co_false h21 rfl ?_
    refine wp_exit ?_
    refine co_thenX ?_
    refine co_thenX ?_
    refine co_blockX ?_
    refine co_then ?_
    refine co_seq ?_
    refine co_reg ?_
    refine pk0 (v := .bool true) h21 rfl fun a22 h22 => ?_; clear h21
    refine pl_nil ?_
    refine co_then ?_
    refine wp_ret ?_
    refine co_ret1 h22 rfl rfl ?_
    exact ⟨ret_bool (by first | exact short_y (by assumption) (by omega) | exact short_n (by assumption) (by omega) (by omega)), hB10⟩
   ·
    rw [hc17] at h16
    have hp23 : ((i : Nat) : Int) < ((l.length : Nat) : Int) := of_decide_eq_true hc17
    clear hc17
    refine pk0 (v := .int .i64 ((i : Nat) : Int)) h16 rfl fun a24 h24 => ?_; clear h16
    refine pk0 (v := .bool (decide (((i : Nat) : Int) < 40))) h24 rfl fun a25 h25 => ?_; clear h24
    refine pk0 (v := .bool (decide (((i : Nat) : Int) < 40))) h25 rfl fun a26 h26 => ?_; clear h25
    refine pl_nil ?_
    refine co_then ?_
    cases hc27 : (decide (((i : Nat) : Int) < 40))
    ·
     rw [hc27] at h26
     have hp28 : ¬ (((i : Nat) : Int) < 40) := of_decide_eq_false hc27
     clear hc27
     refine co_false h26 rfl ?_
     refine wp_exit ?_
     refine co_thenX ?_
     refine co_thenX ?_
     refine co_blockX ?_
     refine co_then ?_
     refine co_seq ?_
     refine co_reg ?_
     refine pk0 (v := .bool true) h26 rfl fun a29 h29 => ?_; clear h26
     refine pl_nil ?_
     refine co_then ?_
     refine wp_ret ?_
     refine co_ret1 h29 rfl rfl ?_
     exact ⟨ret_bool (by first | exact short_y (by assumption) (by omega) | exact short_n (by assumption) (by omega) (by omega)), hB10⟩
    ·
     rw [hc27] at h26
     have hp30 : ((i : Nat) : Int) < 40 := of_decide_eq_true hc27
     clear hc27
     refine co_true h26 rfl ?_
     refine wp_skip ?_
     refine co_then ?_
     refine co_seq ?_
     refine wp_block ?_
     refine co_seq ?_
     refine co_reg ?_
     refine pk0 (v := v) h26 rfl fun a31 h31 => ?_; clear h26
     refine pk0 (v := .int .i64 ((i : Nat) : Int)) h31 rfl fun a32 h32 => ?_; clear h31
     obtain ⟨y33, hy33⟩ : ∃ z, l[i]? = some z := ⟨_, List.getElem?_eq_getElem (by first | omega | (simp; done) | (simp; omega))⟩
     refine pk (v := pt (blkOf v) (offOf v + i * 4)) h32 rfl (rn_index rfl rfl rfl Tryd.underlying22 Tryd.sizeOf33 (hs.below hB10) (by omega) (by first | omega | (simp; done) | (simp; omega))) fun a34 h34 => ?_; clear h32
     refine pk0 (v := pt (blkOf v) (offOf v + i * 4 + 1)) h34 rfl fun a35 h35 => ?_; clear h34
     refine pk (v := .string y33.s) h35 rfl (rn_load1 rfl rfl Tryd.isAgg9 ((sl_at (hs.below hB10) hy33) 1 _ rfl)) fun a36 h36 => ?_; clear h35
     refine pk (v := .int .i64 ((y33.s.size : Nat) : Int)) h36 rfl (rn_lenStr rfl rfl Tryd.underlying9) fun a37 h37 => ?_; clear h36
     refine pk0 (v := .bool (decide (((y33.s.size : Nat) : Int) > 300))) h37 rfl fun a38 h38 => ?_; clear h37
     refine pl_nil ?_
     refine co_then ?_
     cases hc39 : (decide (((y33.s.size : Nat) : Int) > 300))
     ·
      rw [hc39] at h38
      have hp40 : ¬ (((y33.s.size : Nat) : Int) > 300) := of_decide_eq_false hc39
      clear hc39
      refine co_false h38 rfl ?_
      refine wp_skip ?_
      refine co_blockN ?_
      refine co_then ?_
      refine co_reg ?_
      refine pk0 (v := .int .i64 ((i : Nat) : Int)) h38 rfl fun a41 h41 => ?_; clear h38
      refine pk (v := .int .i64 ((i + 1 : Nat) : Int)) h41 rfl (rn_arith' rfl rfl rfl rfl rfl rfl (IntWalk.i64_in _ (by omega)) (by omega)) fun a42 h42 => ?_; clear h41
      refine pk0 (v := .int .i64 ((i + 1 : Nat) : Int)) h42 rfl fun a43 h43 => ?_; clear h42
      refine pl_nil ?_
      refine co_then ?_
      refine ⟨(l.length - (i + 1)), by omega, ?_⟩
      exact ⟨i + 1, h43.sub ⟨rfl, rfl, trivial⟩, rfl, by omega, by omega, by first | exact shTo_0 _ | exact shTo_next (by assumption) (by assumption) (by omega), hB10⟩
     ·
      rw [hc39] at h38
      have hp44 : ((y33.s.size : Nat) : Int) > 300 := of_decide_eq_true hc39
      clear hc39
      refine co_true h38 rfl ?_
      refine co_seq ?_
      refine co_reg ?_
      refine pk0 (v := .bool false) h38 rfl fun a45 h45 => ?_; clear h38
      refine pl_nil ?_
      refine co_then ?_
      refine wp_ret ?_
      refine co_blockR ?_
      refine co_thenR ?_
      refine co_thenR ?_
      refine co_blockR ?_
      refine co_thenR ?_
      refine co_ret1 h45 rfl rfl ?_
      exact ⟨ret_bool (by first | exact short_y (by assumption) (by omega) | exact short_n (by assumption) (by omega) (by omega)), hB10⟩
set_option maxRecDepth 100000 in
set_option maxHeartbeats 3200000 in
theorem awake12  (w : World) (ht : Tab w) :
    Calls Tryd.prog 9 #[] w fun e w' => e = .returned (.bool true) ∧ Below w.heap.size w w' := by
 have hB0 := Below.refl w.heap.size w
 refine co_enter (n := 53) Tryd.func9 rfl rfl rfl [] rfl (fun a h0 => ?_)
 refine co_seq ?_
 refine co_reg ?_
 refine pk0 (v := .bool false) h0 rfl fun a1 h1 => ?_; clear h0
 refine pl_nil ?_
 refine co_then ?_
 refine co_seq ?_
 refine co_reg ?_
 refine pw h1 rfl (op_call (args := #[]) (R := fun res xw => ∃ N, res = pt N 0 ∧ WlO w.heap.size xw N 0 1 [] [] ∧ Below w.heap.size w xw) rfl rfl rfl (by kernel_rfl) (by kernel_rfl) (Tryd.call10 _ _) (wlNew w.heap.size 1 w (by omega) (by omega)) (by rintro e x ⟨N, rfl, h1, h2⟩; exact ⟨_, rfl, N, rfl, h1, h2⟩)) ?_; clear h1
 rintro _ w3 a2 ⟨N6, rfl, hd4, hb7⟩ h2
 have hz8 := hb7.size
 refine pk0 (v := pt N6 0) h2 rfl fun a9 h9 => ?_; clear h2
 refine pl_nil ?_
 refine co_then ?_
 refine co_seq ?_
 refine co_reg ?_
 refine pk0 (v := pt N6 0) h9 rfl fun a10 h10 => ?_; clear h9
 have hB15 := hb_call hB0 hb7
 refine pw h10 rfl (op_call (args := #[pt N6 0, .int .i64 1]) (R := fun res xw => ∃ (N : Nat) (u : Value), res = .tuple #[pt N 0, u, .int .i64 0] ∧ Blk xw N 41 #[.bool true, pt N6 0, .int .i64 1] ∧ xw.ownsRow w3.heap.size 9 1 u (txtA ([] : List WSeg) ++ ([] : List ByteArray)).length ((txtA ([] : List WSeg) ++ ([] : List ByteArray)).flatMap strE) ∧ WlO w.heap.size xw N6 0 1 ([] : List WSeg) ([] : List ByteArray) ∧ ButD w.heap.size w3 xw) rfl rfl rfl (by kernel_rfl) (by kernel_rfl) (Tryd.call11 _ _) (wlOpen w3 hd4 (by omega) (ht.below hB15) (tab_pos ht)) (by rintro e x ⟨N, u, rfl, h⟩; exact ⟨_, rfl, N, u, rfl, h⟩)) ?_; clear h10
 rintro _ w12 a11 ⟨N16, u17, rfl, hk18, hr19, hd13, hx14⟩ h11
 have hz21 := hx14.size
 have hB20 := (hbD hB15 hx14)
 have hz22 := hB20.size
 have hln23 := WlO.len hd13
 have hl24 := hk18.lt
 have hl25 := sl_len (row_sl hr19 strE_lenW)
 have hl26 : (txtA ([] : List WSeg) ++ ([] : List ByteArray)).length = (txtA ([] : List WSeg)).length + ([] : List ByteArray).length := List.length_append
 have hl27 : (txtA ([] : List WSeg) ++ ([] : List ByteArray)).length = 0 := by rfl
 refine pk0 (v := .tuple #[pt N16 0, u17, .int .i64 0]) h11 rfl fun a28 h28 => ?_; clear h11
 refine pk0 (v := pt N16 0) h28 rfl fun a29 h29 => ?_; clear h28
 refine pk0 (v := u17) h29 rfl fun a30 h30 => ?_; clear h29
 refine pk0 (v := .int .i64 0) h30 rfl fun a31 h31 => ?_; clear h30
 refine pk0 (v := pt N16 0) h31 rfl fun a32 h32 => ?_; clear h31
 refine pk0 (v := u17) h32 rfl fun a33 h33 => ?_; clear h32
 refine pk0 (v := .int .i64 0) h33 rfl fun a34 h34 => ?_; clear h33
 refine pl_nil ?_
 refine co_then ?_
 refine co_seq ?_
 refine co_reg ?_
 refine pk0 (v := pt N16 0) h34 rfl fun a35 h35 => ?_; clear h34
 refine pw h35 rfl (op_call (args := #[pt N16 0, .string (⟨#[97]⟩)]) (R := fun res xw => res = .int .i64 0 ∧ WlO w.heap.size xw N6 1 1 ([] : List WSeg) (([] : List ByteArray) ++ [(⟨#[97]⟩ : ByteArray)]) ∧ ButD w.heap.size w12 xw) rfl rfl rfl (by kernel_rfl) (by kernel_rfl) (Tryd.call12 _ _) (wlAppend w12 (⟨#[97]⟩ : ByteArray) hk18 hd13 (by omega) (ht.below hB20) (tab_pos ht) (by decide)) (by rintro e x ⟨rfl, h1, h2⟩; exact ⟨_, rfl, rfl, h1, h2⟩)) ?_; clear h35
 rintro _ w37 a36 ⟨rfl, hd38, hx39⟩ h36
 have hz41 := hx39.size
 have hB40 := (hbD hB20 hx39)
 have hz42 := hB40.size
 have hln43 := WlO.len hd38
 refine pk0 (v := .int .i64 0) h36 rfl fun a44 h44 => ?_; clear h36
 refine pl_nil ?_
 refine co_then ?_
 refine co_seq ?_
 refine co_reg ?_
 refine pk0 (v := pt N6 0) h44 rfl fun a45 h45 => ?_; clear h44
 refine pw h45 rfl (op_call (args := #[pt N6 0, .int .i64 1]) (R := fun res xw => ∃ (u : Value), res = .tuple #[u, .int .i64 (hereA 1 ((([] : List ByteArray) ++ [(⟨#[97]⟩ : ByteArray)]).foldl appA ([] : List WSeg)))] ∧ xw.ownsRow w37.heap.size 9 1 u (txtA ([] : List WSeg) ++ (([] : List ByteArray) ++ [(⟨#[97]⟩ : ByteArray)])).length ((txtA ([] : List WSeg) ++ (([] : List ByteArray) ++ [(⟨#[97]⟩ : ByteArray)])).flatMap strE) ∧ WlO w.heap.size xw N6 1 1 ([] : List WSeg) (([] : List ByteArray) ++ [(⟨#[97]⟩ : ByteArray)]) ∧ ButD w.heap.size w37 xw) rfl rfl rfl (by kernel_rfl) (by kernel_rfl) (Tryd.call16 _ _) (wlRead w37 hd38 (by omega) (ht.below hB40) (tab_pos ht)) (by rintro e x ⟨u, rfl, h⟩; exact ⟨_, rfl, u, rfl, h⟩)) ?_; clear h45
 rintro _ w47 a46 ⟨u50, rfl, hr51, hd48, hx49⟩ h46
 have hz53 := hx49.size
 have hB52 := (hbD hB40 hx49)
 have hz54 := hB52.size
 have hln55 := WlO.len hd48
 have hl56 := sl_len (row_sl hr51 strE_lenW)
 have hl57 : (txtA ([] : List WSeg) ++ (([] : List ByteArray) ++ [(⟨#[97]⟩ : ByteArray)])).length = (txtA ([] : List WSeg)).length + (([] : List ByteArray) ++ [(⟨#[97]⟩ : ByteArray)]).length := List.length_append
 have hl58 : (txtA ([] : List WSeg) ++ (([] : List ByteArray) ++ [(⟨#[97]⟩ : ByteArray)])).length = 1 := by rfl
 refine pk0 (v := .tuple #[u50, .int .i64 (hereA 1 ((([] : List ByteArray) ++ [(⟨#[97]⟩ : ByteArray)]).foldl appA ([] : List WSeg)))]) h46 rfl fun a59 h59 => ?_; clear h46
 refine pk0 (v := u50) h59 rfl fun a60 h60 => ?_; clear h59
 refine pk0 (v := .int .i64 (hereA 1 ((([] : List ByteArray) ++ [(⟨#[97]⟩ : ByteArray)]).foldl appA ([] : List WSeg)))) h60 rfl fun a61 h61 => ?_; clear h60
 refine pk0 (v := u50) h61 rfl fun a62 h62 => ?_; clear h61
 refine pk0 (v := .int .i64 (hereA 1 ((([] : List ByteArray) ++ [(⟨#[97]⟩ : ByteArray)]).foldl appA ([] : List WSeg)))) h62 rfl fun a63 h63 => ?_; clear h62
 refine pl_nil ?_
 refine co_then ?_
 refine co_seq ?_
 refine co_reg ?_
 refine pk0 (v := .int .i64 0) h63 rfl fun a64 h64 => ?_; clear h63
 refine pk0 (v := .bool ((0 : Int) == 0)) h64 rfl fun a65 h65 => ?_; clear h64
 refine pk0 (v := .bool ((0 : Int) == 0)) h65 rfl fun a66 h66 => ?_; clear h65
 have hc67 : ((0 : Int) == 0) = true := by first | (simp; done) | (simp; omega) | exact beq_false_of_ne (by omega) | exact beq_iff_eq.2 (by omega)
 rw [hc67] at h66; clear hc67
 refine pk0 (v := u17) h66 rfl fun a68 h68 => ?_; clear h66
 have hr69 := rowD hr19 (by unfold offD; decide) hx39
 have hr70 := rowD hr69 (by unfold offD; decide) hx49
 refine pk (v := .int .i64 (((txtA ([] : List WSeg) ++ ([] : List ByteArray)).length : Nat) : Int)) h68 rfl (rn_lenOwn rfl rfl Tryd.underlying28 hr70) fun a71 h71 => ?_; clear h68
 refine pk0 (v := .bool ((((txtA ([] : List WSeg) ++ ([] : List ByteArray)).length : Nat) : Int) == 0)) h71 rfl fun a72 h72 => ?_; clear h71
 refine pk0 (v := .bool ((((txtA ([] : List WSeg) ++ ([] : List ByteArray)).length : Nat) : Int) == 0)) h72 rfl fun a73 h73 => ?_; clear h72
 refine pk0 (v := .bool ((((txtA ([] : List WSeg) ++ ([] : List ByteArray)).length : Nat) : Int) == 0)) h73 rfl fun a74 h74 => ?_; clear h73
 have hc75 : ((((txtA ([] : List WSeg) ++ ([] : List ByteArray)).length : Nat) : Int) == 0) = true := by first | (simp; done) | (simp; omega) | exact beq_false_of_ne (by omega) | exact beq_iff_eq.2 (by omega)
 rw [hc75] at h74; clear hc75
 refine pk0 (v := .int .i64 0) h74 rfl fun a76 h76 => ?_; clear h74
 refine pk0 (v := .bool ((0 : Int) == 0)) h76 rfl fun a77 h77 => ?_; clear h76
 refine pk0 (v := .bool ((0 : Int) == 0)) h77 rfl fun a78 h78 => ?_; clear h77
 refine pk0 (v := .bool ((0 : Int) == 0)) h78 rfl fun a79 h79 => ?_; clear h78
 have hc80 : ((0 : Int) == 0) = true := by first | (simp; done) | (simp; omega) | exact beq_false_of_ne (by omega) | exact beq_iff_eq.2 (by omega)
 rw [hc80] at h79; clear hc80
 refine pk0 (v := u50) h79 rfl fun a81 h81 => ?_; clear h79
 refine pk (v := .int .i64 (((txtA ([] : List WSeg) ++ (([] : List ByteArray) ++ [(⟨#[97]⟩ : ByteArray)])).length : Nat) : Int)) h81 rfl (rn_lenOwn rfl rfl Tryd.underlying28 hr51) fun a82 h82 => ?_; clear h81
 refine pk0 (v := .bool ((((txtA ([] : List WSeg) ++ (([] : List ByteArray) ++ [(⟨#[97]⟩ : ByteArray)])).length : Nat) : Int) == 1)) h82 rfl fun a83 h83 => ?_; clear h82
 refine pk0 (v := .bool ((((txtA ([] : List WSeg) ++ (([] : List ByteArray) ++ [(⟨#[97]⟩ : ByteArray)])).length : Nat) : Int) == 1)) h83 rfl fun a84 h84 => ?_; clear h83
 refine pk0 (v := .bool ((((txtA ([] : List WSeg) ++ (([] : List ByteArray) ++ [(⟨#[97]⟩ : ByteArray)])).length : Nat) : Int) == 1)) h84 rfl fun a85 h85 => ?_; clear h84
 have hc86 : ((((txtA ([] : List WSeg) ++ (([] : List ByteArray) ++ [(⟨#[97]⟩ : ByteArray)])).length : Nat) : Int) == 1) = true := by first | (simp; done) | (simp; omega) | exact beq_false_of_ne (by omega) | exact beq_iff_eq.2 (by omega)
 rw [hc86] at h85; clear hc86
 refine pk0 (v := u50) h85 rfl fun a87 h87 => ?_; clear h85
 obtain ⟨y88, hy88⟩ : ∃ z, (txtA ([] : List WSeg) ++ (([] : List ByteArray) ++ [(⟨#[97]⟩ : ByteArray)]))[0]? = some z := ⟨_, List.getElem?_eq_getElem (by first | omega | (simp; done) | (simp; omega))⟩
 refine pk (v := pt (blkOf u50) (offOf u50 + 0 * 1)) h87 rfl (rn_index rfl rfl rfl Tryd.underlying28 Tryd.sizeOf9 (row_sl hr51 strE_lenW) (by omega) (by first | omega | (simp; done) | (simp; omega))) fun a89 h89 => ?_; clear h87
 refine pk (v := .string y88) h89 rfl (rn_load1 rfl rfl Tryd.isAgg9 ((sl_at (row_sl hr51 strE_lenW) hy88) 0 _ rfl)) fun a90 h90 => ?_; clear h89
 refine pk0 (v := .bool (y88.toList == (⟨#[97]⟩ : ByteArray).toList)) h90 rfl fun a91 h91 => ?_; clear h90
 refine pk0 (v := .bool (y88.toList == (⟨#[97]⟩ : ByteArray).toList)) h91 rfl fun a92 h92 => ?_; clear h91
 refine pk0 (v := .bool (y88.toList == (⟨#[97]⟩ : ByteArray).toList)) h92 rfl fun a93 h93 => ?_; clear h92
 have hc94 : (y88.toList == (⟨#[97]⟩ : ByteArray).toList) = true := by first | rfl | (simp; done) | (have e9 := aw_get hy88; rw [e9]; simp)
 rw [hc94] at h93; clear hc94
 refine pk0 (v := .int .i64 (hereA 1 ((([] : List ByteArray) ++ [(⟨#[97]⟩ : ByteArray)]).foldl appA ([] : List WSeg)))) h93 rfl fun a95 h95 => ?_; clear h93
 refine pk0 (v := .bool (hereA 1 ((([] : List ByteArray) ++ [(⟨#[97]⟩ : ByteArray)]).foldl appA ([] : List WSeg)) == 1)) h95 rfl fun a96 h96 => ?_; clear h95
 refine pk0 (v := .bool (hereA 1 ((([] : List ByteArray) ++ [(⟨#[97]⟩ : ByteArray)]).foldl appA ([] : List WSeg)) == 1)) h96 rfl fun a97 h97 => ?_; clear h96
 refine pk0 (v := .bool (hereA 1 ((([] : List ByteArray) ++ [(⟨#[97]⟩ : ByteArray)]).foldl appA ([] : List WSeg)) == 1)) h97 rfl fun a98 h98 => ?_; clear h97
 have hc99 : (hereA 1 ((([] : List ByteArray) ++ [(⟨#[97]⟩ : ByteArray)]).foldl appA ([] : List WSeg)) == 1) = true := by rw [aw_hereL]; rfl
 rw [hc99] at h98; clear hc99
 refine pk0 (v := pt N16 0) h98 rfl fun a100 h100 => ?_; clear h98
 have hk105 := blkD hk18 (by unfold offD; decide) hx39
 have hk106 := blkD hk105 (by unfold offD; decide) hx49
 refine pw h100 rfl (op_call (args := #[pt N16 0]) (R := fun res xw => res = .int .i64 (hereA 1 ((([] : List ByteArray) ++ [(⟨#[97]⟩ : ByteArray)]).foldl appA ([] : List WSeg))) ∧ WlO w.heap.size xw N6 1 1 ([] : List WSeg) (([] : List ByteArray) ++ [(⟨#[97]⟩ : ByteArray)]) ∧ ButD w.heap.size w47 xw) rfl rfl rfl (by kernel_rfl) (by kernel_rfl) (Tryd.call17 _ _) (wlLast w47 hk106 hd48 (by omega) (ht.below hB52) (tab_pos ht)) (by rintro e x ⟨rfl, h1, h2⟩; exact ⟨_, rfl, rfl, h1, h2⟩)) ?_; clear h100
 rintro _ w102 a101 ⟨rfl, hd103, hx104⟩ h101
 have hz108 := hx104.size
 have hB107 := (hbD hB52 hx104)
 have hz109 := hB107.size
 have hln110 := WlO.len hd103
 refine pk0 (v := .bool (hereA 1 ((([] : List ByteArray) ++ [(⟨#[97]⟩ : ByteArray)]).foldl appA ([] : List WSeg)) == 1)) h101 rfl fun a111 h111 => ?_; clear h101
 refine pk0 (v := .bool (hereA 1 ((([] : List ByteArray) ++ [(⟨#[97]⟩ : ByteArray)]).foldl appA ([] : List WSeg)) == 1)) h111 rfl fun a112 h112 => ?_; clear h111
 refine pk0 (v := .bool (hereA 1 ((([] : List ByteArray) ++ [(⟨#[97]⟩ : ByteArray)]).foldl appA ([] : List WSeg)) == 1)) h112 rfl fun a113 h113 => ?_; clear h112
 refine pl_nil ?_
 refine co_then ?_
 refine wp_ret ?_
 refine co_ret1 h113 rfl rfl ?_
 exact ⟨by rw [aw_hereL]; rfl, hB107⟩
end Go.Proofs.YtfiplhnplmadmaaDoor

/- catenalaw12: WalKeeps. Conditions: a laid table. -/
namespace Go.Proofs.YtfiplhnplmadmaaDoor
open Go.RowKit Go.PlainAid
set_option linter.unusedVariables false
set_option linter.unusedSimpArgs false

set_option maxRecDepth 100000 in
set_option maxHeartbeats 6400000 in
theorem walKeeps_law (v : Value) (l : List WActT) (w : World) (ht : Tab w) (hs : SliceOf wactE 4 w v l) (hok : ∀ z ∈ l, WActOk z) :
    Calls Tryd.prog 3 #[v] w fun e w' => e = .returned (.bool true) ∧ Below w.heap.size w w' := by
 have hB0 := Below.refl w.heap.size w
 have hl_hs := sl_len hs
 cases hsw : shortW l
 · skip
   refine co_enter (n := 126) Tryd.func3 rfl rfl rfl [(0, v)] rfl (fun a h0 => ?_)
   refine co_seq ?_
   refine co_reg ?_
   refine pk0 (v := .bool false) h0 rfl fun a1 h1 => ?_; clear h0
   refine pl_nil ?_
   refine co_then ?_
   refine co_seq ?_
   refine co_seq ?_
   refine co_reg ?_
   refine pk0 (v := v) h1 rfl fun a2 h2 => ?_; clear h1
   refine pw h2 rfl (op_call (args := #[v]) (R := fun res xw => res = .bool (shortW l) ∧ Below w.heap.size w xw) rfl rfl rfl (by kernel_rfl) (by kernel_rfl) (Tryd.call8 _ _) (short12_any v l w hs) (by rintro e x ⟨rfl, hb5⟩; exact ⟨_, rfl, ⟨rfl, hb5⟩⟩)) ?_; clear h2
   rintro _ w4 a3 ⟨rfl, hb5⟩ h3
   have hz6 := hb5.size
   have hc7 : (shortW l) = false := by rw [hsw]
   rw [hc7] at h3; clear hc7
   refine pk0 (v := .bool true) h3 rfl fun a8 h8 => ?_; clear h3
   refine pl_nil ?_
   refine co_then ?_
   refine co_true h8 rfl ?_
   refine co_seq ?_
   refine co_reg ?_
   have hB11 := hb_call hB0 hb5
   refine pw h8 rfl (op_call (args := #[]) (R := fun res xw => res = .bool true ∧ Below w4.heap.size w4 xw) rfl rfl rfl (by kernel_rfl) (by kernel_rfl) (Tryd.call9 _ _) (awake12 w4 (ht.below hB11)) (by rintro e x ⟨rfl, h⟩; exact ⟨_, rfl, rfl, h⟩)) ?_; clear h8
   rintro _ w10 a9 ⟨rfl, hb12⟩ h9
   have hz13 := hb12.size
   refine pk0 (v := .bool true) h9 rfl fun a14 h14 => ?_; clear h9
   refine pl_nil ?_
   refine co_then ?_
   refine wp_ret ?_
   refine co_thenR ?_
   refine co_ret1 h14 rfl rfl ?_
   have hB15 := hb_call hB11 hb12
   exact ⟨rfl, hB15⟩
 · skip
   refine co_enter (n := 126) Tryd.func3 rfl rfl rfl [(0, v)] rfl (fun a h0 => ?_)
   refine co_seq ?_
   refine co_reg ?_
   refine pk0 (v := .bool false) h0 rfl fun a16 h16 => ?_; clear h0
   refine pl_nil ?_
   refine co_then ?_
   refine co_seq ?_
   refine co_seq ?_
   refine co_reg ?_
   refine pk0 (v := v) h16 rfl fun a17 h17 => ?_; clear h16
   refine pw h17 rfl (op_call (args := #[v]) (R := fun res xw => res = .bool (shortW l) ∧ Below w.heap.size w xw) rfl rfl rfl (by kernel_rfl) (by kernel_rfl) (Tryd.call8 _ _) (short12_any v l w hs) (by rintro e x ⟨rfl, hb20⟩; exact ⟨_, rfl, ⟨rfl, hb20⟩⟩)) ?_; clear h17
   rintro _ w19 a18 ⟨rfl, hb20⟩ h18
   have hz21 := hb20.size
   have hc22 : (shortW l) = true := by rw [hsw]
   rw [hc22] at h18; clear hc22
   refine pk0 (v := .bool false) h18 rfl fun a23 h23 => ?_; clear h18
   refine pl_nil ?_
   refine co_then ?_
   refine co_false h23 rfl ?_
   refine wp_skip ?_
   refine co_then ?_
   refine co_seq ?_
   refine co_reg ?_
   have hB28 := hb_call hB0 hb20
   refine pw h23 rfl (op_call (args := #[]) (R := fun res xw => ∃ N, res = pt N 0 ∧ WlO w.heap.size xw N 0 1 [] [] ∧ Below w19.heap.size w19 xw) rfl rfl rfl (by kernel_rfl) (by kernel_rfl) (Tryd.call10 _ _) (wlNew w.heap.size 1 w19 (by omega) (by omega)) (by rintro e x ⟨N, rfl, h1, h2⟩; exact ⟨_, rfl, N, rfl, h1, h2⟩)) ?_; clear h23
   rintro _ w25 a24 ⟨N29, rfl, hd26, hb30⟩ h24
   have hz31 := hb30.size
   refine pk0 (v := pt N29 0) h24 rfl fun a32 h32 => ?_; clear h24
   refine pl_nil ?_
   refine co_then ?_
   refine co_seq ?_
   refine co_reg ?_
   refine pk0 (v := pt N29 0) h32 rfl fun a33 h33 => ?_; clear h32
   have hB38 := hb_call hB28 hb30
   refine pw h33 rfl (op_call (args := #[pt N29 0, .int .i64 1]) (R := fun res xw => ∃ (N : Nat) (u : Value), res = .tuple #[pt N 0, u, .int .i64 0] ∧ Blk xw N 41 #[.bool true, pt N29 0, .int .i64 1] ∧ xw.ownsRow w25.heap.size 9 1 u (txtA ([] : List WSeg) ++ ([] : List ByteArray)).length ((txtA ([] : List WSeg) ++ ([] : List ByteArray)).flatMap strE) ∧ WlO w.heap.size xw N29 0 1 ([] : List WSeg) ([] : List ByteArray) ∧ ButD w.heap.size w25 xw) rfl rfl rfl (by kernel_rfl) (by kernel_rfl) (Tryd.call11 _ _) (wlOpen w25 hd26 (by omega) (ht.below hB38) (tab_pos ht)) (by rintro e x ⟨N, u, rfl, h⟩; exact ⟨_, rfl, N, u, rfl, h⟩)) ?_; clear h33
   rintro _ w35 a34 ⟨N39, u40, rfl, hk41, hr42, hd36, hx37⟩ h34
   have hz44 := hx37.size
   have hB43 := (hbD hB38 hx37)
   have hz45 := hB43.size
   have hln46 := WlO.len hd36
   have hl47 := hk41.lt
   have hl48 := sl_len (row_sl hr42 strE_lenW)
   have hl49 : (txtA ([] : List WSeg) ++ ([] : List ByteArray)).length = (txtA ([] : List WSeg)).length + ([] : List ByteArray).length := List.length_append
   refine pk0 (v := .tuple #[pt N39 0, u40, .int .i64 0]) h34 rfl fun a50 h50 => ?_; clear h34
   refine pk0 (v := pt N39 0) h50 rfl fun a51 h51 => ?_; clear h50
   refine pk0 (v := u40) h51 rfl fun a52 h52 => ?_; clear h51
   refine pk0 (v := .int .i64 0) h52 rfl fun a53 h53 => ?_; clear h52
   refine pk0 (v := pt N39 0) h53 rfl fun a54 h54 => ?_; clear h53
   refine pk0 (v := u40) h54 rfl fun a55 h55 => ?_; clear h54
   refine pk0 (v := .int .i64 0) h55 rfl fun a56 h56 => ?_; clear h55
   refine pl_nil ?_
   refine co_then ?_
   refine co_seq ?_
   refine co_reg ?_
   refine pk0 (v := .slice none 0 0) h56 rfl fun a57 h57 => ?_; clear h56
   refine pl_nil ?_
   refine co_then ?_
   refine co_seq ?_
   refine co_reg ?_
   refine pk0 (v := .int .i64 0) h57 rfl fun a58 h58 => ?_; clear h57
   refine pl_nil ?_
   refine co_then ?_
   refine co_seq ?_
   refine co_seq ?_
   refine co_reg ?_
   refine pk0 (v := .int .i64 0) h58 rfl fun a59 h59 => ?_; clear h58
   refine pl_nil ?_
   refine co_then ?_
   refine wp_block ?_
   have h60 : Slots 126 [(0, v), (3, pt N29 0), (4, pt N39 0), (7, .slice none 0 0), (8, .int .i64 0), (9, .int .i64 0)] _ := h59.sub ⟨rfl, rfl, rfl, rfl, rfl, rfl, trivial⟩; clear h59
   refine co_loop (fun mm a x => ∃ (i : Nat) (A : List WSeg) (xs : List ByteArray) (u : Value) (N : Nat), Slots 126 [(0, v), (3, pt N29 0), (4, pt N 0), (7, u), (8, .int .i64 (((txtA A).length : Nat) : Int)), (9, .int .i64 ((i : Nat) : Int))] a ∧ mm = l.length - i ∧ (i ≤ l.length) ∧ (i ≤ 40) ∧ WlO w.heap.size x N29 i 1 A xs ∧ Blk x N 41 #[.bool true, pt N29 0, .int .i64 1] ∧ x.ownsRow w.heap.size 9 1 u (txtA A ++ xs).length ((txtA A ++ xs).flatMap strE) ∧ Below w.heap.size w x) (l.length - 0) ?_ ?_
   · exact ⟨0, ([] : List WSeg), ([] : List ByteArray), (.slice none 0 0), N39, h60.sub ⟨rfl, rfl, rfl, rfl, (slot_eq rfl (congrArg (Value.int .i64) (by first | rfl | (simp [txtA]; done) | (rw [txt_run]; done) | (simp; done) | omega))), (slot_eq rfl (congrArg (Value.int .i64) (by first | rfl | omega))), trivial⟩, rfl, by omega, by omega, (WlO.up hd36 (by omega)), hk41, (row_nilL _ _ _ _ _), hB43⟩
   · rintro k61 a62 w63 ⟨i, A, xs, u, N, h62, rfl, hi64, hi65, hf66, hf67, hf68, hB69⟩
     have hz70 := hB69.size
     have hl71 := hf67.lt
     have hln0 := WlO.len hf66
     have hla0 : (txtA A ++ xs).length = (txtA A).length + xs.length := List.length_append
     refine co_seq ?_
     refine co_seq ?_
     refine co_reg ?_
     refine pk0 (v := .int .i64 ((i : Nat) : Int)) h62 rfl fun a72 h72 => ?_; clear h62
     refine pk0 (v := v) h72 rfl fun a73 h73 => ?_; clear h72
     refine pk (v := .int .i64 ((l.length : Nat) : Int)) h73 rfl (rn_len rfl rfl Tryd.underlying22 (hs.below hB69)) fun a74 h74 => ?_; clear h73
     refine pk0 (v := .bool (decide (((i : Nat) : Int) < ((l.length : Nat) : Int)))) h74 rfl fun a75 h75 => ?_; clear h74
     refine pk0 (v := .bool (decide (((i : Nat) : Int) < ((l.length : Nat) : Int)))) h75 rfl fun a76 h76 => ?_; clear h75
     cases hc77 : (decide (((i : Nat) : Int) < ((l.length : Nat) : Int)))
     ·
      rw [hc77] at h76
      have hp78 : ¬ (((i : Nat) : Int) < ((l.length : Nat) : Int)) := of_decide_eq_false hc77
      clear hc77
      refine psk h76 rfl fun a79 h79 => ?_; clear h76
      refine psk h79 rfl fun a80 h80 => ?_; clear h79
      refine pk0 (v := .bool false) h80 rfl fun a81 h81 => ?_; clear h80
      refine pl_nil ?_
      refine co_then ?_
      refine co_false h81 rfl ?_
      refine wp_exit ?_
      refine co_thenX ?_
      refine co_thenX ?_
      refine co_blockX ?_
      refine co_then ?_
      refine co_seq ?_
      refine co_reg ?_
      refine pk0 (v := pt N29 0) h81 rfl fun a82 h82 => ?_; clear h81
      refine pw h82 rfl (op_call (args := #[pt N29 0, .int .i64 1]) (R := fun res xw => ∃ (u : Value), res = .tuple #[u, .int .i64 (hereA 1 (xs.foldl appA A))] ∧ xw.ownsRow w63.heap.size 9 1 u (txtA A ++ xs).length ((txtA A ++ xs).flatMap strE) ∧ WlO w.heap.size xw N29 i 1 A xs ∧ ButD w.heap.size w63 xw) rfl rfl rfl (by kernel_rfl) (by kernel_rfl) (Tryd.call16 _ _) (wlRead w63 hf66 (by omega) (ht.below hB69) (tab_pos ht)) (by rintro e x ⟨u, rfl, h⟩; exact ⟨_, rfl, u, rfl, h⟩)) ?_; clear h82
      rintro _ w84 a83 ⟨u87, rfl, hr88, hd85, hx86⟩ h83
      have hz90 := hx86.size
      have hB89 := (hbD hB69 hx86)
      have hz91 := hB89.size
      have hln92 := WlO.len hd85
      have hl93 := sl_len (row_sl hr88 strE_lenW)
      have hl94 : (txtA A ++ xs).length = (txtA A).length + xs.length := List.length_append
      refine pk0 (v := .tuple #[u87, .int .i64 (hereA 1 (xs.foldl appA A))]) h83 rfl fun a95 h95 => ?_; clear h83
      refine pk0 (v := u87) h95 rfl fun a96 h96 => ?_; clear h95
      refine pk0 (v := .int .i64 (hereA 1 (xs.foldl appA A))) h96 rfl fun a97 h97 => ?_; clear h96
      refine pk0 (v := u87) h97 rfl fun a98 h98 => ?_; clear h97
      refine pk0 (v := .int .i64 (hereA 1 (xs.foldl appA A))) h98 rfl fun a99 h99 => ?_; clear h98
      refine pl_nil ?_
      refine co_then ?_
      refine co_seq ?_
      refine co_reg ?_
      refine pk0 (v := u87) h99 rfl fun a100 h100 => ?_; clear h99
      refine pk0 (v := u) h100 rfl fun a101 h101 => ?_; clear h100
      have hr104 := rowD hf68 (by unfold offD; decide) hx86
      refine pw h101 rfl (op_call (args := #[u87, u]) (R := fun res xw => res = .bool true ∧ Below w84.heap.size w84 xw) rfl rfl rfl (by kernel_rfl) (by kernel_rfl) (Tryd.call15 _ _) (sameStr_any u87 u (txtA A ++ xs) w84 (row_sl hr88 strE_lenW) (sl_castW (row_sl hr104 strE_lenW) (rfl))) (by rintro e x ⟨rfl, h⟩; exact ⟨_, rfl, rfl, h⟩)) ?_; clear h101
      rintro _ w103 a102 ⟨rfl, hb105⟩ h102
      have hz106 := hb105.size
      refine pk0 (v := .bool true) h102 rfl fun a107 h107 => ?_; clear h102
      have hB110 := hb_call hB89 hb105
      have hk111 := blkD hf67 (by unfold offD; decide) hx86
      have hk112 := hk111.below hb105
      refine pw h107 rfl (op_call (args := #[]) (R := fun res xw => res = .bool true ∧ Below w103.heap.size w103 xw) rfl rfl rfl (by kernel_rfl) (by kernel_rfl) (Tryd.call9 _ _) (awake12 w103 (ht.below hB110)) (by rintro e x ⟨rfl, h⟩; exact ⟨_, rfl, rfl, h⟩)) ?_; clear h107
      rintro _ w109 a108 ⟨rfl, hb113⟩ h108
      have hz114 := hb113.size
      refine pk0 (v := .bool true) h108 rfl fun a115 h115 => ?_; clear h108
      refine pk0 (v := .bool true) h115 rfl fun a116 h116 => ?_; clear h115
      refine pl_nil ?_
      refine co_then ?_
      refine wp_ret ?_
      refine co_ret1 h116 rfl rfl ?_
      have hB117 := hb_call hB110 hb113
      exact ⟨rfl, hB117⟩
     ·
      rw [hc77] at h76
      have hp118 : ((i : Nat) : Int) < ((l.length : Nat) : Int) := of_decide_eq_true hc77
      clear hc77
      refine pk0 (v := .int .i64 ((i : Nat) : Int)) h76 rfl fun a119 h119 => ?_; clear h76
      refine pk0 (v := .bool (decide (((i : Nat) : Int) < 40))) h119 rfl fun a120 h120 => ?_; clear h119
      refine pk0 (v := .bool (decide (((i : Nat) : Int) < 40))) h120 rfl fun a121 h121 => ?_; clear h120
      refine pl_nil ?_
      refine co_then ?_
      cases hc122 : (decide (((i : Nat) : Int) < 40))
      ·
       rw [hc122] at h121
       have hp123 : ¬ (((i : Nat) : Int) < 40) := of_decide_eq_false hc122
       clear hc122
       refine co_false h121 rfl ?_
       refine wp_exit ?_
       refine co_thenX ?_
       refine co_thenX ?_
       refine co_blockX ?_
       refine co_then ?_
       refine co_seq ?_
       refine co_reg ?_
       refine pk0 (v := pt N29 0) h121 rfl fun a124 h124 => ?_; clear h121
       refine pw h124 rfl (op_call (args := #[pt N29 0, .int .i64 1]) (R := fun res xw => ∃ (u : Value), res = .tuple #[u, .int .i64 (hereA 1 (xs.foldl appA A))] ∧ xw.ownsRow w63.heap.size 9 1 u (txtA A ++ xs).length ((txtA A ++ xs).flatMap strE) ∧ WlO w.heap.size xw N29 i 1 A xs ∧ ButD w.heap.size w63 xw) rfl rfl rfl (by kernel_rfl) (by kernel_rfl) (Tryd.call16 _ _) (wlRead w63 hf66 (by omega) (ht.below hB69) (tab_pos ht)) (by rintro e x ⟨u, rfl, h⟩; exact ⟨_, rfl, u, rfl, h⟩)) ?_; clear h124
       rintro _ w126 a125 ⟨u129, rfl, hr130, hd127, hx128⟩ h125
       have hz132 := hx128.size
       have hB131 := (hbD hB69 hx128)
       have hz133 := hB131.size
       have hln134 := WlO.len hd127
       have hl135 := sl_len (row_sl hr130 strE_lenW)
       have hl136 : (txtA A ++ xs).length = (txtA A).length + xs.length := List.length_append
       refine pk0 (v := .tuple #[u129, .int .i64 (hereA 1 (xs.foldl appA A))]) h125 rfl fun a137 h137 => ?_; clear h125
       refine pk0 (v := u129) h137 rfl fun a138 h138 => ?_; clear h137
       refine pk0 (v := .int .i64 (hereA 1 (xs.foldl appA A))) h138 rfl fun a139 h139 => ?_; clear h138
       refine pk0 (v := u129) h139 rfl fun a140 h140 => ?_; clear h139
       refine pk0 (v := .int .i64 (hereA 1 (xs.foldl appA A))) h140 rfl fun a141 h141 => ?_; clear h140
       refine pl_nil ?_
       refine co_then ?_
       refine co_seq ?_
       refine co_reg ?_
       refine pk0 (v := u129) h141 rfl fun a142 h142 => ?_; clear h141
       refine pk0 (v := u) h142 rfl fun a143 h143 => ?_; clear h142
       have hr146 := rowD hf68 (by unfold offD; decide) hx128
       refine pw h143 rfl (op_call (args := #[u129, u]) (R := fun res xw => res = .bool true ∧ Below w126.heap.size w126 xw) rfl rfl rfl (by kernel_rfl) (by kernel_rfl) (Tryd.call15 _ _) (sameStr_any u129 u (txtA A ++ xs) w126 (row_sl hr130 strE_lenW) (sl_castW (row_sl hr146 strE_lenW) (rfl))) (by rintro e x ⟨rfl, h⟩; exact ⟨_, rfl, rfl, h⟩)) ?_; clear h143
       rintro _ w145 a144 ⟨rfl, hb147⟩ h144
       have hz148 := hb147.size
       refine pk0 (v := .bool true) h144 rfl fun a149 h149 => ?_; clear h144
       have hB152 := hb_call hB131 hb147
       have hk153 := blkD hf67 (by unfold offD; decide) hx128
       have hk154 := hk153.below hb147
       refine pw h149 rfl (op_call (args := #[]) (R := fun res xw => res = .bool true ∧ Below w145.heap.size w145 xw) rfl rfl rfl (by kernel_rfl) (by kernel_rfl) (Tryd.call9 _ _) (awake12 w145 (ht.below hB152)) (by rintro e x ⟨rfl, h⟩; exact ⟨_, rfl, rfl, h⟩)) ?_; clear h149
       rintro _ w151 a150 ⟨rfl, hb155⟩ h150
       have hz156 := hb155.size
       refine pk0 (v := .bool true) h150 rfl fun a157 h157 => ?_; clear h150
       refine pk0 (v := .bool true) h157 rfl fun a158 h158 => ?_; clear h157
       refine pl_nil ?_
       refine co_then ?_
       refine wp_ret ?_
       refine co_ret1 h158 rfl rfl ?_
       have hB159 := hb_call hB152 hb155
       exact ⟨rfl, hB159⟩
      ·
       rw [hc122] at h121
       have hp160 : ((i : Nat) : Int) < 40 := of_decide_eq_true hc122
       clear hc122
       refine co_true h121 rfl ?_
       refine wp_skip ?_
       refine co_then ?_
       refine co_seq ?_
       refine wp_block ?_
       refine co_seq ?_
       refine co_reg ?_
       refine pk0 (v := v) h121 rfl fun a161 h161 => ?_; clear h121
       refine pk0 (v := .int .i64 ((i : Nat) : Int)) h161 rfl fun a162 h162 => ?_; clear h161
       obtain ⟨y163, hy163⟩ : ∃ z, l[i]? = some z := ⟨_, List.getElem?_eq_getElem (by first | omega | (simp; done) | (simp; omega))⟩
       have oky163 := hok _ (List.mem_of_getElem? hy163)
       have k164 : -9223372036854775808 ≤ y163.n ∧ y163.n ≤ 9223372036854775807 := oky163
       have hszy163 := short_at hsw hy163 (by omega)
       refine pk (v := pt (blkOf v) (offOf v + i * 4)) h162 rfl (rn_index rfl rfl rfl Tryd.underlying22 Tryd.sizeOf33 (hs.below hB69) (by omega) (by first | omega | (simp; done) | (simp; omega))) fun a165 h165 => ?_; clear h162
       refine pk0 (v := pt (blkOf v) (offOf v + i * 4)) h165 rfl fun a166 h166 => ?_; clear h165
       refine pk (v := .int .i64 y163.k) h166 rfl (rn_load1 rfl rfl Tryd.isAgg3 ((sl_at (hs.below hB69) hy163) 0 _ rfl)) fun a167 h167 => ?_; clear h166
       refine pl_nil ?_
       refine co_then ?_
       refine wp_block ?_
       refine co_seq ?_
       refine co_seq ?_
       refine co_reg ?_
       refine pk0 (v := .bool (y163.k == 0)) h167 rfl fun a168 h168 => ?_; clear h167
       refine pk0 (v := .bool (y163.k == 0)) h168 rfl fun a169 h169 => ?_; clear h168
       refine pl_nil ?_
       refine co_then ?_
       cases hc170 : (y163.k == 0)
       ·
        rw [hc170] at h169
        have hp171 : ¬ (y163.k = 0) := by first | simpa using hc170 | simpa [and_assoc] using hc170
        clear hc170
        refine co_false h169 rfl ?_
        refine co_seq ?_
        refine co_reg ?_
        refine pk0 (v := .bool (y163.k == 1)) h169 rfl fun a172 h172 => ?_; clear h169
        refine pk0 (v := .bool (y163.k == 1)) h172 rfl fun a173 h173 => ?_; clear h172
        refine pl_nil ?_
        refine co_then ?_
        cases hc174 : (y163.k == 1)
        ·
         rw [hc174] at h173
         have hp175 : ¬ (y163.k = 1) := by first | simpa using hc174 | simpa [and_assoc] using hc174
         clear hc174
         refine co_false h173 rfl ?_
         refine co_seq ?_
         refine co_reg ?_
         refine pk0 (v := .bool (y163.k == 4)) h173 rfl fun a176 h176 => ?_; clear h173
         refine pk0 (v := .bool (y163.k == 4)) h176 rfl fun a177 h177 => ?_; clear h176
         refine pl_nil ?_
         refine co_then ?_
         cases hc178 : (y163.k == 4)
         ·
          rw [hc178] at h177
          have hp179 : ¬ (y163.k = 4) := by first | simpa using hc178 | simpa [and_assoc] using hc178
          clear hc178
          refine co_false h177 rfl ?_
          refine co_reg ?_
          refine pk0 (v := .bool (y163.k == 5)) h177 rfl fun a180 h180 => ?_; clear h177
          refine pk0 (v := .bool (y163.k == 5)) h180 rfl fun a181 h181 => ?_; clear h180
          refine pl_nil ?_
          refine co_then ?_
          cases hc182 : (y163.k == 5)
          ·
           rw [hc182] at h181
           have hp183 : ¬ (y163.k = 5) := by first | simpa using hc182 | simpa [and_assoc] using hc182
           clear hc182
           refine co_false h181 rfl ?_
           refine co_seq ?_
           refine co_reg ?_
           refine pk0 (v := .bool (y163.k == 2)) h181 rfl fun a184 h184 => ?_; clear h181
           refine pk0 (v := .bool (y163.k == 2)) h184 rfl fun a185 h185 => ?_; clear h184
           refine pl_nil ?_
           refine co_then ?_
           cases hc186 : (y163.k == 2)
           ·
            rw [hc186] at h185
            have hp187 : ¬ (y163.k = 2) := by first | simpa using hc186 | simpa [and_assoc] using hc186
            clear hc186
            refine co_false h185 rfl ?_
            refine co_seq ?_
            refine co_reg ?_
            refine pk0 (v := .bool (y163.k == 3)) h185 rfl fun a188 h188 => ?_; clear h185
            refine pk0 (v := .bool (y163.k == 3)) h188 rfl fun a189 h189 => ?_; clear h188
            refine pl_nil ?_
            refine co_then ?_
            cases hc190 : (y163.k == 3)
            ·
             rw [hc190] at h189
             have hp191 : ¬ (y163.k = 3) := by first | simpa using hc190 | simpa [and_assoc] using hc190
             clear hc190
             refine co_false h189 rfl ?_
             refine wp_skip ?_
             refine co_blockN ?_
             refine co_blockN ?_
             refine co_then ?_
             refine co_reg ?_
             refine pk0 (v := .int .i64 ((i : Nat) : Int)) h189 rfl fun a192 h192 => ?_; clear h189
             refine pk (v := .int .i64 ((i + 1 : Nat) : Int)) h192 rfl (rn_arith' rfl rfl rfl rfl rfl rfl (IntWalk.i64_in _ (by omega)) (by omega)) fun a193 h193 => ?_; clear h192
             refine pk0 (v := .int .i64 ((i + 1 : Nat) : Int)) h193 rfl fun a194 h194 => ?_; clear h193
             refine pl_nil ?_
             refine co_then ?_
             refine ⟨(l.length - (i + 1)), by omega, ?_⟩
             exact ⟨i + 1, A, xs, u, N, h194.sub ⟨rfl, rfl, rfl, rfl, rfl, rfl, trivial⟩, rfl, by omega, by omega, (WlO.up hf66 (by omega)), hf67, (row_eq hf68 (by first | rfl | (simp; done) | (rw [txt_run]; simp; done) | (rw [List.append_assoc]))), hB69⟩
            ·
             rw [hc190] at h189
             have hp195 : y163.k = 3 := by first | simpa using hc190 | simpa [and_assoc] using hc190
             clear hc190
             refine co_true h189 rfl ?_
             refine co_seq ?_
             refine co_reg ?_
             refine pk0 (v := pt N29 0) h189 rfl fun a196 h196 => ?_; clear h189
             refine pk0 (v := v) h196 rfl fun a197 h197 => ?_; clear h196
             refine pk0 (v := .int .i64 ((i : Nat) : Int)) h197 rfl fun a198 h198 => ?_; clear h197
             refine pk (v := pt (blkOf v) (offOf v + i * 4)) h198 rfl (rn_index rfl rfl rfl Tryd.underlying22 Tryd.sizeOf33 (hs.below hB69) (by omega) (by first | omega | (simp; done) | (simp; omega))) fun a199 h199 => ?_; clear h198
             refine pk0 (v := pt (blkOf v) (offOf v + i * 4 + 2)) h199 rfl fun a200 h200 => ?_; clear h199
             refine pk (v := .int .i64 y163.n) h200 rfl (rn_load1 rfl rfl Tryd.isAgg3 ((sl_at (hs.below hB69) hy163) 2 _ rfl)) fun a201 h201 => ?_; clear h200
             refine pw h201 rfl (op_call (args := #[pt N29 0, .int .i64 y163.n]) (R := fun res xw => ∃ (j : Nat) (E : List WSeg), res = .tuple #[] ∧ (j ≤ xs.length ∧ txtA E = txtA A ++ xs.take j) ∧ WlO w.heap.size xw N29 (i + 1) 1 E ([] : List ByteArray) ∧ ButD w.heap.size w63 xw) rfl rfl rfl (by kernel_rfl) (by kernel_rfl) (Tryd.call14 _ _) (wlCrash w63 y163.n oky163 hf66 (by omega)) (by rintro e x ⟨j, E, rfl, h⟩; exact ⟨_, rfl, j, E, rfl, h⟩)) ?_; clear h201
             rintro _ w203 a202 ⟨j206, E207, rfl, hj208, hd204, hx205⟩ h202
             have hl209 : (txtA E207).length = (txtA A).length + j206 := by rw [hj208.2, List.length_append, List.length_take]; omega
             have hz211 := hx205.size
             have hB210 := (hbD hB69 hx205)
             have hz212 := hB210.size
             have hln213 := WlO.len hd204
             refine pl_nil ?_
             refine co_then ?_
             refine co_seq ?_
             refine co_reg ?_
             refine pk0 (v := pt N29 0) h202 rfl fun a214 h214 => ?_; clear h202
             refine pw h214 rfl (op_call (args := #[pt N29 0, .int .i64 1]) (R := fun res xw => ∃ (N : Nat) (u : Value), res = .tuple #[pt N 0, u, .int .i64 0] ∧ Blk xw N 41 #[.bool true, pt N29 0, .int .i64 1] ∧ xw.ownsRow w203.heap.size 9 1 u (txtA E207 ++ ([] : List ByteArray)).length ((txtA E207 ++ ([] : List ByteArray)).flatMap strE) ∧ WlO w.heap.size xw N29 (i + 1) 1 E207 ([] : List ByteArray) ∧ ButD w.heap.size w203 xw) rfl rfl rfl (by kernel_rfl) (by kernel_rfl) (Tryd.call11 _ _) (wlOpen w203 hd204 (by omega) (ht.below hB210) (tab_pos ht)) (by rintro e x ⟨N, u, rfl, h⟩; exact ⟨_, rfl, N, u, rfl, h⟩)) ?_; clear h214
             rintro _ w216 a215 ⟨N219, u220, rfl, hk221, hr222, hd217, hx218⟩ h215
             have hz224 := hx218.size
             have hB223 := (hbD hB210 hx218)
             have hz225 := hB223.size
             have hln226 := WlO.len hd217
             have hl227 := hk221.lt
             have hl228 := sl_len (row_sl hr222 strE_lenW)
             have hl229 : (txtA E207 ++ ([] : List ByteArray)).length = (txtA E207).length + ([] : List ByteArray).length := List.length_append
             refine pk0 (v := .tuple #[pt N219 0, u220, .int .i64 0]) h215 rfl fun a230 h230 => ?_; clear h215
             refine pk0 (v := pt N219 0) h230 rfl fun a231 h231 => ?_; clear h230
             refine pk0 (v := u220) h231 rfl fun a232 h232 => ?_; clear h231
             refine pk0 (v := .int .i64 0) h232 rfl fun a233 h233 => ?_; clear h232
             refine pk0 (v := pt N219 0) h233 rfl fun a234 h234 => ?_; clear h233
             refine pk0 (v := u220) h234 rfl fun a235 h235 => ?_; clear h234
             refine pk0 (v := .int .i64 0) h235 rfl fun a236 h236 => ?_; clear h235
             refine pl_nil ?_
             refine co_then ?_
             refine co_seq ?_
             refine co_seq ?_
             refine co_reg ?_
             refine pk0 (v := .int .i64 0) h236 rfl fun a237 h237 => ?_; clear h236
             refine pk0 (v := .bool ((0 : Int) != 0)) h237 rfl fun a238 h238 => ?_; clear h237
             refine pk0 (v := .bool ((0 : Int) != 0)) h238 rfl fun a239 h239 => ?_; clear h238
             have hc240 : ((0 : Int) != 0) = false := by first | (simp; done) | (simp; omega) | exact beq_false_of_ne (by omega) | exact beq_iff_eq.2 (by omega)
             rw [hc240] at h239; clear hc240
             refine pk0 (v := pt N219 0) h239 rfl fun a241 h241 => ?_; clear h239
             refine pk0 (v := .bool false) h241 rfl fun a242 h242 => ?_; clear h241
             refine pk0 (v := .bool false) h242 rfl fun a243 h243 => ?_; clear h242
             refine pk0 (v := .bool false) h243 rfl fun a244 h244 => ?_; clear h243
             refine pk0 (v := u220) h244 rfl fun a245 h245 => ?_; clear h244
             refine pk (v := .int .i64 (((txtA E207 ++ ([] : List ByteArray)).length : Nat) : Int)) h245 rfl (rn_lenOwn rfl rfl Tryd.underlying28 hr222) fun a246 h246 => ?_; clear h245
             refine pk0 (v := .int .i64 (((txtA A).length : Nat) : Int)) h246 rfl fun a247 h247 => ?_; clear h246
             refine pk0 (v := .bool (decide ((((txtA E207 ++ ([] : List ByteArray)).length : Nat) : Int) < (((txtA A).length : Nat) : Int)))) h247 rfl fun a248 h248 => ?_; clear h247
             refine pk0 (v := .bool (decide ((((txtA E207 ++ ([] : List ByteArray)).length : Nat) : Int) < (((txtA A).length : Nat) : Int)))) h248 rfl fun a249 h249 => ?_; clear h248
             refine pk0 (v := .bool (decide ((((txtA E207 ++ ([] : List ByteArray)).length : Nat) : Int) < (((txtA A).length : Nat) : Int)))) h249 rfl fun a250 h250 => ?_; clear h249
             have hc251 : (decide ((((txtA E207 ++ ([] : List ByteArray)).length : Nat) : Int) < (((txtA A).length : Nat) : Int))) = false := decide_eq_false (by omega)
             rw [hc251] at h250; clear hc251
             refine pk0 (v := u220) h250 rfl fun a252 h252 => ?_; clear h250
             refine pk (v := .int .i64 (((txtA E207 ++ ([] : List ByteArray)).length : Nat) : Int)) h252 rfl (rn_lenOwn rfl rfl Tryd.underlying28 hr222) fun a253 h253 => ?_; clear h252
             refine pk0 (v := u) h253 rfl fun a254 h254 => ?_; clear h253
             have hr255 := rowD hf68 (by unfold offD; decide) hx205
             have hr256 := rowD hr255 (by unfold offD; decide) hx218
             refine pk (v := .int .i64 (((txtA A ++ xs).length : Nat) : Int)) h254 rfl (rn_lenOwn rfl rfl Tryd.underlying28 hr256) fun a257 h257 => ?_; clear h254
             refine pk0 (v := .bool (decide ((((txtA E207 ++ ([] : List ByteArray)).length : Nat) : Int) > (((txtA A ++ xs).length : Nat) : Int)))) h257 rfl fun a258 h258 => ?_; clear h257
             refine pk0 (v := .bool (decide ((((txtA E207 ++ ([] : List ByteArray)).length : Nat) : Int) > (((txtA A ++ xs).length : Nat) : Int)))) h258 rfl fun a259 h259 => ?_; clear h258
             refine pk0 (v := .bool (decide ((((txtA E207 ++ ([] : List ByteArray)).length : Nat) : Int) > (((txtA A ++ xs).length : Nat) : Int)))) h259 rfl fun a260 h260 => ?_; clear h259
             have hc261 : (decide ((((txtA E207 ++ ([] : List ByteArray)).length : Nat) : Int) > (((txtA A ++ xs).length : Nat) : Int))) = false := decide_eq_false (by omega)
             rw [hc261] at h260; clear hc261
             refine pk0 (v := u220) h260 rfl fun a262 h262 => ?_; clear h260
             refine pk0 (v := u) h262 rfl fun a263 h263 => ?_; clear h262
             refine pk0 (v := u220) h263 rfl fun a264 h264 => ?_; clear h263
             refine pk (v := .int .i64 (((txtA E207 ++ ([] : List ByteArray)).length : Nat) : Int)) h264 rfl (rn_lenOwn rfl rfl Tryd.underlying28 hr222) fun a265 h265 => ?_; clear h264
             refine pk (v := subV u 0 ((txtA E207 ++ ([] : List ByteArray)).length) 1) h265 rfl (rn_sliceTo rfl rfl rfl Tryd.underlying28 Tryd.sizeOf9 (row_sl hr256 strE_lenW) (by omega) (by omega)) fun a266 h266 => ?_; clear h265
             have hk269 := blkD hf67 (by unfold offD; decide) hx205
             have hk270 := blkD hk269 (by unfold offD; decide) hx218
             refine pw h266 rfl (op_call (args := #[u220, subV u 0 ((txtA E207 ++ ([] : List ByteArray)).length) 1]) (R := fun res xw => res = .bool true ∧ Below w216.heap.size w216 xw) rfl rfl rfl (by kernel_rfl) (by kernel_rfl) (Tryd.call15 _ _) (sameStr_any u220 (subV u 0 ((txtA E207 ++ ([] : List ByteArray)).length) 1) (txtA E207 ++ ([] : List ByteArray)) w216 (row_sl hr222 strE_lenW) (sl_castW (sl_take (row_sl hr256 strE_lenW) _ (by omega)) (by first | rfl | exact cut_eq hj208 (by omega)))) (by rintro e x ⟨rfl, h⟩; exact ⟨_, rfl, rfl, h⟩)) ?_; clear h266
             rintro _ w268 a267 ⟨rfl, hb271⟩ h267
             have hz272 := hb271.size
             refine pk0 (v := .bool false) h267 rfl fun a273 h273 => ?_; clear h267
             refine pk0 (v := .bool false) h273 rfl fun a274 h274 => ?_; clear h273
             refine pl_nil ?_
             refine co_then ?_
             refine co_false h274 rfl ?_
             refine wp_skip ?_
             refine co_then ?_
             refine co_seq ?_
             refine co_reg ?_
             refine pk0 (v := pt N219 0) h274 rfl fun a275 h275 => ?_; clear h274
             refine pk0 (v := pt N219 0) h275 rfl fun a276 h276 => ?_; clear h275
             refine pl_nil ?_
             refine co_then ?_
             refine co_seq ?_
             refine co_reg ?_
             refine pk0 (v := u220) h276 rfl fun a277 h277 => ?_; clear h276
             refine pk0 (v := u220) h277 rfl fun a278 h278 => ?_; clear h277
             refine pl_nil ?_
             refine co_then ?_
             refine co_reg ?_
             refine pk0 (v := u220) h278 rfl fun a279 h279 => ?_; clear h278
             have hr280 := row_kept_new hr222 (below_grown hb271)
             refine pk (v := .int .i64 (((txtA E207 ++ ([] : List ByteArray)).length : Nat) : Int)) h279 rfl (rn_lenOwn rfl rfl Tryd.underlying28 hr280) fun a281 h281 => ?_; clear h279
             refine pk0 (v := .int .i64 (((txtA E207 ++ ([] : List ByteArray)).length : Nat) : Int)) h281 rfl fun a282 h282 => ?_; clear h281
             refine pl_nil ?_
             refine co_blockN ?_
             refine co_blockN ?_
             refine co_then ?_
             refine co_reg ?_
             refine pk0 (v := .int .i64 ((i : Nat) : Int)) h282 rfl fun a283 h283 => ?_; clear h282
             refine pk (v := .int .i64 ((i + 1 : Nat) : Int)) h283 rfl (rn_arith' rfl rfl rfl rfl rfl rfl (IntWalk.i64_in _ (by omega)) (by omega)) fun a284 h284 => ?_; clear h283
             refine pk0 (v := .int .i64 ((i + 1 : Nat) : Int)) h284 rfl fun a285 h285 => ?_; clear h284
             refine pl_nil ?_
             refine co_then ?_
             refine ⟨(l.length - (i + 1)), by omega, ?_⟩
             have hd286 := hd217.call hb271
             have hk287 := hk221.below hb271
             have hB288 := hb_call hB223 hb271
             exact ⟨i + 1, E207, ([] : List ByteArray), u220, N219, h285.sub ⟨rfl, rfl, rfl, rfl, (slot_eq rfl (congrArg (Value.int .i64) (by first | rfl | (simp [txtA]; done) | (rw [txt_run]; done) | (simp; done) | omega))), rfl, trivial⟩, rfl, by omega, by omega, (WlO.up hd286 (by omega)), hk287, (row_eq (row_lows hr280 (by omega)) (by first | rfl | (simp; done) | (rw [txt_run]; simp; done) | (rw [List.append_assoc]))), hB288⟩
           ·
            rw [hc186] at h185
            have hp289 : y163.k = 2 := by first | simpa using hc186 | simpa [and_assoc] using hc186
            clear hc186
            refine co_true h185 rfl ?_
            refine co_seq ?_
            refine co_reg ?_
            refine pk0 (v := pt N29 0) h185 rfl fun a290 h290 => ?_; clear h185
            refine pw h290 rfl (op_call (args := #[pt N29 0]) (R := fun res xw => ∃ k : Int, res = .int .i64 k ∧ WlO w.heap.size xw N29 (i + 1) 1 (xs.foldl appA A) ([] : List ByteArray) ∧ ButD w.heap.size w63 xw) rfl rfl rfl (by kernel_rfl) (by kernel_rfl) (Tryd.call13 _ _) (wlSync w63 hf66 (by omega)) (by rintro e x ⟨k, rfl, h1, h2⟩; exact ⟨_, rfl, k, rfl, h1, h2⟩)) ?_; clear h290
            rintro _ w292 a291 ⟨k295, rfl, hd293, hx294⟩ h291
            have hz297 := hx294.size
            have hB296 := (hbD hB69 hx294)
            have hz298 := hB296.size
            have hln299 := WlO.len hd293
            have hl300 : (txtA (xs.foldl appA A)).length = (txtA A).length + xs.length := by rw [txt_run, List.length_append]
            refine pl_nil ?_
            refine co_then ?_
            refine co_reg ?_
            refine pk0 (v := u) h291 rfl fun a301 h301 => ?_; clear h291
            have hr302 := rowD hf68 (by unfold offD; decide) hx294
            refine pk (v := .int .i64 (((txtA A ++ xs).length : Nat) : Int)) h301 rfl (rn_lenOwn rfl rfl Tryd.underlying28 hr302) fun a303 h303 => ?_; clear h301
            refine pk0 (v := .int .i64 (((txtA A ++ xs).length : Nat) : Int)) h303 rfl fun a304 h304 => ?_; clear h303
            refine pl_nil ?_
            refine co_blockN ?_
            refine co_blockN ?_
            refine co_then ?_
            refine co_reg ?_
            refine pk0 (v := .int .i64 ((i : Nat) : Int)) h304 rfl fun a305 h305 => ?_; clear h304
            refine pk (v := .int .i64 ((i + 1 : Nat) : Int)) h305 rfl (rn_arith' rfl rfl rfl rfl rfl rfl (IntWalk.i64_in _ (by omega)) (by omega)) fun a306 h306 => ?_; clear h305
            refine pk0 (v := .int .i64 ((i + 1 : Nat) : Int)) h306 rfl fun a307 h307 => ?_; clear h306
            refine pl_nil ?_
            refine co_then ?_
            refine ⟨(l.length - (i + 1)), by omega, ?_⟩
            have hk308 := blkD hf67 (by unfold offD; decide) hx294
            exact ⟨i + 1, (xs.foldl appA A), ([] : List ByteArray), u, N, h307.sub ⟨rfl, rfl, rfl, rfl, (slot_eq rfl (congrArg (Value.int .i64) (by first | rfl | (simp [txtA]; done) | (rw [txt_run]; done) | (simp; done) | omega))), rfl, trivial⟩, rfl, by omega, by omega, (WlO.up hd293 (by omega)), hk308, (row_eq hr302 (by first | rfl | (simp; done) | (rw [txt_run]; simp; done) | (rw [List.append_assoc]))), hB296⟩
          ·
           rw [hc182] at h181
           have hp309 : y163.k = 5 := by first | simpa using hc182 | simpa [and_assoc] using hc182
           clear hc182
           refine co_true h181 rfl ?_
           refine co_seq ?_
           refine co_seq ?_
           refine co_reg ?_
           refine pk0 (v := pt N 0) h181 rfl fun a310 h310 => ?_; clear h181
           refine pk0 (v := v) h310 rfl fun a311 h311 => ?_; clear h310
           refine pk0 (v := .int .i64 ((i : Nat) : Int)) h311 rfl fun a312 h312 => ?_; clear h311
           refine pk (v := pt (blkOf v) (offOf v + i * 4)) h312 rfl (rn_index rfl rfl rfl Tryd.underlying22 Tryd.sizeOf33 (hs.below hB69) (by omega) (by first | omega | (simp; done) | (simp; omega))) fun a313 h313 => ?_; clear h312
           refine pk0 (v := pt (blkOf v) (offOf v + i * 4 + 1)) h313 rfl fun a314 h314 => ?_; clear h313
           refine pk (v := .string y163.s) h314 rfl (rn_load1 rfl rfl Tryd.isAgg9 ((sl_at (hs.below hB69) hy163) 1 _ rfl)) fun a315 h315 => ?_; clear h314
           refine pw h315 rfl (op_call (args := #[pt N 0, .string y163.s]) (R := fun res xw => res = .int .i64 0 ∧ WlO w.heap.size xw N29 (i + 1) 1 A (xs ++ [y163.s]) ∧ ButD w.heap.size w63 xw) rfl rfl rfl (by kernel_rfl) (by kernel_rfl) (Tryd.call12 _ _) (wlAppend w63 y163.s hf67 hf66 (by omega) (ht.below hB69) (tab_pos ht) (by omega)) (by rintro e x ⟨rfl, h1, h2⟩; exact ⟨_, rfl, rfl, h1, h2⟩)) ?_; clear h315
           rintro _ w317 a316 ⟨rfl, hd318, hx319⟩ h316
           have hz321 := hx319.size
           have hB320 := (hbD hB69 hx319)
           have hz322 := hB320.size
           have hln323 := WlO.len hd318
           refine pk0 (v := .bool ((0 : Int) != 0)) h316 rfl fun a324 h324 => ?_; clear h316
           refine pl_nil ?_
           refine co_then ?_
           have hc325 : ((0 : Int) != 0) = false := by first | (simp; done) | (simp; omega) | exact beq_false_of_ne (by omega) | exact beq_iff_eq.2 (by omega)
           rw [hc325] at h324; clear hc325
           refine co_false h324 rfl ?_
           refine wp_skip ?_
           refine co_then ?_
           refine co_reg ?_
           refine pk0 (v := u) h324 rfl fun a326 h326 => ?_; clear h324
           refine pk0 (v := v) h326 rfl fun a327 h327 => ?_; clear h326
           refine pk0 (v := .int .i64 ((i : Nat) : Int)) h327 rfl fun a328 h328 => ?_; clear h327
           refine pk (v := pt (blkOf v) (offOf v + i * 4)) h328 rfl (rn_index rfl rfl rfl Tryd.underlying22 Tryd.sizeOf33 (hs.below hB320) (by omega) (by first | omega | (simp; done) | (simp; omega))) fun a329 h329 => ?_; clear h328
           refine pk0 (v := pt (blkOf v) (offOf v + i * 4 + 1)) h329 rfl fun a330 h330 => ?_; clear h329
           refine pk (v := .string y163.s) h330 rfl (rn_load1 rfl rfl Tryd.isAgg9 ((sl_at (hs.below hB320) hy163) 1 _ rfl)) fun a331 h331 => ?_; clear h330
           refine pw h331 rfl (op_new (v := fun N => .slice (some ⟨N, 0, none⟩) 1 1) (T := 9) (cs := #[.string y163.s]) (by kernel_rfl) (by kernel_rfl) (by kernel_rfl)) ?_; clear h331
           rintro _ w333 a332 ⟨N334, rfl, hN337, hz338, hk336, hg335⟩ h332
           have hr340 := rowD hf68 (by unfold offD; decide) hx319
           have ha339 := row_fresh hr340 hN337
           have hz341 := hg335.size
           try dsimp only at h332
           have hr348 := row_kept_new hr340 hg335
           refine pw h332 rfl (op_append rfl w.heap.size 9 (z := .string (⟨#[]⟩)) (size := 1) (bytes := 16) Tryd.underlying28 (by kernel_rfl) rfl rfl rfl hr348 rfl hk336 rfl (by kernel_rfl) (by first | omega | (simp only [List.length_nil, List.length_append, List.length_cons, List.length_take, List.length_drop]; omega)) (by first | omega | (simp only [List.length_nil, List.length_append, List.length_cons, List.length_take, List.length_drop]; omega)) (by omega)) ?_; clear h332
           rintro v344 w343 a342 ⟨hr345, hg346⟩ h342
           have hr345' : w343.ownsRow w.heap.size 9 1 v344 (((txtA A ++ xs) ++ [y163.s]).length) (((txtA A ++ xs) ++ [y163.s]).flatMap strE) := row_push (y := y163.s) hr345 rfl rfl; clear hr345
           have hz349 := hg346.size
           refine pk0 (v := v344) h342 rfl fun a350 h350 => ?_; clear h342
           refine pl_nil ?_
           refine co_blockN ?_
           refine co_blockN ?_
           refine co_then ?_
           refine co_reg ?_
           refine pk0 (v := .int .i64 ((i : Nat) : Int)) h350 rfl fun a351 h351 => ?_; clear h350
           refine pk (v := .int .i64 ((i + 1 : Nat) : Int)) h351 rfl (rn_arith' rfl rfl rfl rfl rfl rfl (IntWalk.i64_in _ (by omega)) (by omega)) fun a352 h352 => ?_; clear h351
           refine pk0 (v := .int .i64 ((i + 1 : Nat) : Int)) h352 rfl fun a353 h353 => ?_; clear h352
           refine pl_nil ?_
           refine co_then ?_
           refine ⟨(l.length - (i + 1)), by omega, ?_⟩
           have hd354 := hd318.new hg335
           have hd355 := hd354.row hr348 (by unfold offD; decide) hg346
           have hk356 := blkD hf67 (by unfold offD; decide) hx319
           have hk357 := hk356.kept hg335 (by simp)
           have hk358 := hk357.kept hg346 (own_neT hr348 hk357 (by decide))
           have hB359 := hb_new hB320 hg335
           have hB360 := hb_row hB359 hr348 (by omega) hg346
           exact ⟨i + 1, A, (xs ++ [y163.s]), v344, N, h353.sub ⟨rfl, rfl, rfl, rfl, rfl, rfl, trivial⟩, rfl, by omega, by omega, (WlO.up hd355 (by omega)), hk358, (row_eq hr345' (by first | rfl | (simp; done) | (rw [txt_run]; simp; done) | (rw [List.append_assoc]))), hB360⟩
         ·
          rw [hc178] at h177
          have hp361 : y163.k = 4 := by first | simpa using hc178 | simpa [and_assoc] using hc178
          clear hc178
          refine co_true h177 rfl ?_
          refine wp_skip ?_
          refine co_then ?_
          refine co_true h177 rfl ?_
          refine co_seq ?_
          refine co_seq ?_
          refine co_reg ?_
          refine pk0 (v := pt N 0) h177 rfl fun a362 h362 => ?_; clear h177
          refine pk0 (v := v) h362 rfl fun a363 h363 => ?_; clear h362
          refine pk0 (v := .int .i64 ((i : Nat) : Int)) h363 rfl fun a364 h364 => ?_; clear h363
          refine pk (v := pt (blkOf v) (offOf v + i * 4)) h364 rfl (rn_index rfl rfl rfl Tryd.underlying22 Tryd.sizeOf33 (hs.below hB69) (by omega) (by first | omega | (simp; done) | (simp; omega))) fun a365 h365 => ?_; clear h364
          refine pk0 (v := pt (blkOf v) (offOf v + i * 4 + 1)) h365 rfl fun a366 h366 => ?_; clear h365
          refine pk (v := .string y163.s) h366 rfl (rn_load1 rfl rfl Tryd.isAgg9 ((sl_at (hs.below hB69) hy163) 1 _ rfl)) fun a367 h367 => ?_; clear h366
          refine pw h367 rfl (op_call (args := #[pt N 0, .string y163.s]) (R := fun res xw => res = .int .i64 0 ∧ WlO w.heap.size xw N29 (i + 1) 1 A (xs ++ [y163.s]) ∧ ButD w.heap.size w63 xw) rfl rfl rfl (by kernel_rfl) (by kernel_rfl) (Tryd.call12 _ _) (wlAppend w63 y163.s hf67 hf66 (by omega) (ht.below hB69) (tab_pos ht) (by omega)) (by rintro e x ⟨rfl, h1, h2⟩; exact ⟨_, rfl, rfl, h1, h2⟩)) ?_; clear h367
          rintro _ w369 a368 ⟨rfl, hd370, hx371⟩ h368
          have hz373 := hx371.size
          have hB372 := (hbD hB69 hx371)
          have hz374 := hB372.size
          have hln375 := WlO.len hd370
          refine pk0 (v := .bool ((0 : Int) != 0)) h368 rfl fun a376 h376 => ?_; clear h368
          refine pl_nil ?_
          refine co_then ?_
          have hc377 : ((0 : Int) != 0) = false := by first | (simp; done) | (simp; omega) | exact beq_false_of_ne (by omega) | exact beq_iff_eq.2 (by omega)
          rw [hc377] at h376; clear hc377
          refine co_false h376 rfl ?_
          refine wp_skip ?_
          refine co_then ?_
          refine co_reg ?_
          refine pk0 (v := u) h376 rfl fun a378 h378 => ?_; clear h376
          refine pk0 (v := v) h378 rfl fun a379 h379 => ?_; clear h378
          refine pk0 (v := .int .i64 ((i : Nat) : Int)) h379 rfl fun a380 h380 => ?_; clear h379
          refine pk (v := pt (blkOf v) (offOf v + i * 4)) h380 rfl (rn_index rfl rfl rfl Tryd.underlying22 Tryd.sizeOf33 (hs.below hB372) (by omega) (by first | omega | (simp; done) | (simp; omega))) fun a381 h381 => ?_; clear h380
          refine pk0 (v := pt (blkOf v) (offOf v + i * 4 + 1)) h381 rfl fun a382 h382 => ?_; clear h381
          refine pk (v := .string y163.s) h382 rfl (rn_load1 rfl rfl Tryd.isAgg9 ((sl_at (hs.below hB372) hy163) 1 _ rfl)) fun a383 h383 => ?_; clear h382
          refine pw h383 rfl (op_new (v := fun N => .slice (some ⟨N, 0, none⟩) 1 1) (T := 9) (cs := #[.string y163.s]) (by kernel_rfl) (by kernel_rfl) (by kernel_rfl)) ?_; clear h383
          rintro _ w385 a384 ⟨N386, rfl, hN389, hz390, hk388, hg387⟩ h384
          have hr392 := rowD hf68 (by unfold offD; decide) hx371
          have ha391 := row_fresh hr392 hN389
          have hz393 := hg387.size
          try dsimp only at h384
          have hr400 := row_kept_new hr392 hg387
          refine pw h384 rfl (op_append rfl w.heap.size 9 (z := .string (⟨#[]⟩)) (size := 1) (bytes := 16) Tryd.underlying28 (by kernel_rfl) rfl rfl rfl hr400 rfl hk388 rfl (by kernel_rfl) (by first | omega | (simp only [List.length_nil, List.length_append, List.length_cons, List.length_take, List.length_drop]; omega)) (by first | omega | (simp only [List.length_nil, List.length_append, List.length_cons, List.length_take, List.length_drop]; omega)) (by omega)) ?_; clear h384
          rintro v396 w395 a394 ⟨hr397, hg398⟩ h394
          have hr397' : w395.ownsRow w.heap.size 9 1 v396 (((txtA A ++ xs) ++ [y163.s]).length) (((txtA A ++ xs) ++ [y163.s]).flatMap strE) := row_push (y := y163.s) hr397 rfl rfl; clear hr397
          have hz401 := hg398.size
          refine pk0 (v := v396) h394 rfl fun a402 h402 => ?_; clear h394
          refine pl_nil ?_
          refine co_blockN ?_
          refine co_blockN ?_
          refine co_then ?_
          refine co_reg ?_
          refine pk0 (v := .int .i64 ((i : Nat) : Int)) h402 rfl fun a403 h403 => ?_; clear h402
          refine pk (v := .int .i64 ((i + 1 : Nat) : Int)) h403 rfl (rn_arith' rfl rfl rfl rfl rfl rfl (IntWalk.i64_in _ (by omega)) (by omega)) fun a404 h404 => ?_; clear h403
          refine pk0 (v := .int .i64 ((i + 1 : Nat) : Int)) h404 rfl fun a405 h405 => ?_; clear h404
          refine pl_nil ?_
          refine co_then ?_
          refine ⟨(l.length - (i + 1)), by omega, ?_⟩
          have hd406 := hd370.new hg387
          have hd407 := hd406.row hr400 (by unfold offD; decide) hg398
          have hk408 := blkD hf67 (by unfold offD; decide) hx371
          have hk409 := hk408.kept hg387 (by simp)
          have hk410 := hk409.kept hg398 (own_neT hr400 hk409 (by decide))
          have hB411 := hb_new hB372 hg387
          have hB412 := hb_row hB411 hr400 (by omega) hg398
          exact ⟨i + 1, A, (xs ++ [y163.s]), v396, N, h405.sub ⟨rfl, rfl, rfl, rfl, rfl, rfl, trivial⟩, rfl, by omega, by omega, (WlO.up hd407 (by omega)), hk410, (row_eq hr397' (by first | rfl | (simp; done) | (rw [txt_run]; simp; done) | (rw [List.append_assoc]))), hB412⟩
        ·
         rw [hc174] at h173
         have hp413 : y163.k = 1 := by first | simpa using hc174 | simpa [and_assoc] using hc174
         clear hc174
         refine co_true h173 rfl ?_
         refine wp_skip ?_
         refine co_then ?_
         refine co_true h173 rfl ?_
         refine co_seq ?_
         refine co_seq ?_
         refine co_reg ?_
         refine pk0 (v := pt N 0) h173 rfl fun a414 h414 => ?_; clear h173
         refine pk0 (v := v) h414 rfl fun a415 h415 => ?_; clear h414
         refine pk0 (v := .int .i64 ((i : Nat) : Int)) h415 rfl fun a416 h416 => ?_; clear h415
         refine pk (v := pt (blkOf v) (offOf v + i * 4)) h416 rfl (rn_index rfl rfl rfl Tryd.underlying22 Tryd.sizeOf33 (hs.below hB69) (by omega) (by first | omega | (simp; done) | (simp; omega))) fun a417 h417 => ?_; clear h416
         refine pk0 (v := pt (blkOf v) (offOf v + i * 4 + 1)) h417 rfl fun a418 h418 => ?_; clear h417
         refine pk (v := .string y163.s) h418 rfl (rn_load1 rfl rfl Tryd.isAgg9 ((sl_at (hs.below hB69) hy163) 1 _ rfl)) fun a419 h419 => ?_; clear h418
         refine pw h419 rfl (op_call (args := #[pt N 0, .string y163.s]) (R := fun res xw => res = .int .i64 0 ∧ WlO w.heap.size xw N29 (i + 1) 1 A (xs ++ [y163.s]) ∧ ButD w.heap.size w63 xw) rfl rfl rfl (by kernel_rfl) (by kernel_rfl) (Tryd.call12 _ _) (wlAppend w63 y163.s hf67 hf66 (by omega) (ht.below hB69) (tab_pos ht) (by omega)) (by rintro e x ⟨rfl, h1, h2⟩; exact ⟨_, rfl, rfl, h1, h2⟩)) ?_; clear h419
         rintro _ w421 a420 ⟨rfl, hd422, hx423⟩ h420
         have hz425 := hx423.size
         have hB424 := (hbD hB69 hx423)
         have hz426 := hB424.size
         have hln427 := WlO.len hd422
         refine pk0 (v := .bool ((0 : Int) != 0)) h420 rfl fun a428 h428 => ?_; clear h420
         refine pl_nil ?_
         refine co_then ?_
         have hc429 : ((0 : Int) != 0) = false := by first | (simp; done) | (simp; omega) | exact beq_false_of_ne (by omega) | exact beq_iff_eq.2 (by omega)
         rw [hc429] at h428; clear hc429
         refine co_false h428 rfl ?_
         refine wp_skip ?_
         refine co_then ?_
         refine co_reg ?_
         refine pk0 (v := u) h428 rfl fun a430 h430 => ?_; clear h428
         refine pk0 (v := v) h430 rfl fun a431 h431 => ?_; clear h430
         refine pk0 (v := .int .i64 ((i : Nat) : Int)) h431 rfl fun a432 h432 => ?_; clear h431
         refine pk (v := pt (blkOf v) (offOf v + i * 4)) h432 rfl (rn_index rfl rfl rfl Tryd.underlying22 Tryd.sizeOf33 (hs.below hB424) (by omega) (by first | omega | (simp; done) | (simp; omega))) fun a433 h433 => ?_; clear h432
         refine pk0 (v := pt (blkOf v) (offOf v + i * 4 + 1)) h433 rfl fun a434 h434 => ?_; clear h433
         refine pk (v := .string y163.s) h434 rfl (rn_load1 rfl rfl Tryd.isAgg9 ((sl_at (hs.below hB424) hy163) 1 _ rfl)) fun a435 h435 => ?_; clear h434
         refine pw h435 rfl (op_new (v := fun N => .slice (some ⟨N, 0, none⟩) 1 1) (T := 9) (cs := #[.string y163.s]) (by kernel_rfl) (by kernel_rfl) (by kernel_rfl)) ?_; clear h435
         rintro _ w437 a436 ⟨N438, rfl, hN441, hz442, hk440, hg439⟩ h436
         have hr444 := rowD hf68 (by unfold offD; decide) hx423
         have ha443 := row_fresh hr444 hN441
         have hz445 := hg439.size
         try dsimp only at h436
         have hr452 := row_kept_new hr444 hg439
         refine pw h436 rfl (op_append rfl w.heap.size 9 (z := .string (⟨#[]⟩)) (size := 1) (bytes := 16) Tryd.underlying28 (by kernel_rfl) rfl rfl rfl hr452 rfl hk440 rfl (by kernel_rfl) (by first | omega | (simp only [List.length_nil, List.length_append, List.length_cons, List.length_take, List.length_drop]; omega)) (by first | omega | (simp only [List.length_nil, List.length_append, List.length_cons, List.length_take, List.length_drop]; omega)) (by omega)) ?_; clear h436
         rintro v448 w447 a446 ⟨hr449, hg450⟩ h446
         have hr449' : w447.ownsRow w.heap.size 9 1 v448 (((txtA A ++ xs) ++ [y163.s]).length) (((txtA A ++ xs) ++ [y163.s]).flatMap strE) := row_push (y := y163.s) hr449 rfl rfl; clear hr449
         have hz453 := hg450.size
         refine pk0 (v := v448) h446 rfl fun a454 h454 => ?_; clear h446
         refine pl_nil ?_
         refine co_blockN ?_
         refine co_blockN ?_
         refine co_then ?_
         refine co_reg ?_
         refine pk0 (v := .int .i64 ((i : Nat) : Int)) h454 rfl fun a455 h455 => ?_; clear h454
         refine pk (v := .int .i64 ((i + 1 : Nat) : Int)) h455 rfl (rn_arith' rfl rfl rfl rfl rfl rfl (IntWalk.i64_in _ (by omega)) (by omega)) fun a456 h456 => ?_; clear h455
         refine pk0 (v := .int .i64 ((i + 1 : Nat) : Int)) h456 rfl fun a457 h457 => ?_; clear h456
         refine pl_nil ?_
         refine co_then ?_
         refine ⟨(l.length - (i + 1)), by omega, ?_⟩
         have hd458 := hd422.new hg439
         have hd459 := hd458.row hr452 (by unfold offD; decide) hg450
         have hk460 := blkD hf67 (by unfold offD; decide) hx423
         have hk461 := hk460.kept hg439 (by simp)
         have hk462 := hk461.kept hg450 (own_neT hr452 hk461 (by decide))
         have hB463 := hb_new hB424 hg439
         have hB464 := hb_row hB463 hr452 (by omega) hg450
         exact ⟨i + 1, A, (xs ++ [y163.s]), v448, N, h457.sub ⟨rfl, rfl, rfl, rfl, rfl, rfl, trivial⟩, rfl, by omega, by omega, (WlO.up hd459 (by omega)), hk462, (row_eq hr449' (by first | rfl | (simp; done) | (rw [txt_run]; simp; done) | (rw [List.append_assoc]))), hB464⟩
       ·
        rw [hc170] at h169
        have hp465 : y163.k = 0 := by first | simpa using hc170 | simpa [and_assoc] using hc170
        clear hc170
        refine co_true h169 rfl ?_
        refine wp_skip ?_
        refine co_then ?_
        refine co_true h169 rfl ?_
        refine co_seq ?_
        refine co_seq ?_
        refine co_reg ?_
        refine pk0 (v := pt N 0) h169 rfl fun a466 h466 => ?_; clear h169
        refine pk0 (v := v) h466 rfl fun a467 h467 => ?_; clear h466
        refine pk0 (v := .int .i64 ((i : Nat) : Int)) h467 rfl fun a468 h468 => ?_; clear h467
        refine pk (v := pt (blkOf v) (offOf v + i * 4)) h468 rfl (rn_index rfl rfl rfl Tryd.underlying22 Tryd.sizeOf33 (hs.below hB69) (by omega) (by first | omega | (simp; done) | (simp; omega))) fun a469 h469 => ?_; clear h468
        refine pk0 (v := pt (blkOf v) (offOf v + i * 4 + 1)) h469 rfl fun a470 h470 => ?_; clear h469
        refine pk (v := .string y163.s) h470 rfl (rn_load1 rfl rfl Tryd.isAgg9 ((sl_at (hs.below hB69) hy163) 1 _ rfl)) fun a471 h471 => ?_; clear h470
        refine pw h471 rfl (op_call (args := #[pt N 0, .string y163.s]) (R := fun res xw => res = .int .i64 0 ∧ WlO w.heap.size xw N29 (i + 1) 1 A (xs ++ [y163.s]) ∧ ButD w.heap.size w63 xw) rfl rfl rfl (by kernel_rfl) (by kernel_rfl) (Tryd.call12 _ _) (wlAppend w63 y163.s hf67 hf66 (by omega) (ht.below hB69) (tab_pos ht) (by omega)) (by rintro e x ⟨rfl, h1, h2⟩; exact ⟨_, rfl, rfl, h1, h2⟩)) ?_; clear h471
        rintro _ w473 a472 ⟨rfl, hd474, hx475⟩ h472
        have hz477 := hx475.size
        have hB476 := (hbD hB69 hx475)
        have hz478 := hB476.size
        have hln479 := WlO.len hd474
        refine pk0 (v := .bool ((0 : Int) != 0)) h472 rfl fun a480 h480 => ?_; clear h472
        refine pl_nil ?_
        refine co_then ?_
        have hc481 : ((0 : Int) != 0) = false := by first | (simp; done) | (simp; omega) | exact beq_false_of_ne (by omega) | exact beq_iff_eq.2 (by omega)
        rw [hc481] at h480; clear hc481
        refine co_false h480 rfl ?_
        refine wp_skip ?_
        refine co_then ?_
        refine co_reg ?_
        refine pk0 (v := u) h480 rfl fun a482 h482 => ?_; clear h480
        refine pk0 (v := v) h482 rfl fun a483 h483 => ?_; clear h482
        refine pk0 (v := .int .i64 ((i : Nat) : Int)) h483 rfl fun a484 h484 => ?_; clear h483
        refine pk (v := pt (blkOf v) (offOf v + i * 4)) h484 rfl (rn_index rfl rfl rfl Tryd.underlying22 Tryd.sizeOf33 (hs.below hB476) (by omega) (by first | omega | (simp; done) | (simp; omega))) fun a485 h485 => ?_; clear h484
        refine pk0 (v := pt (blkOf v) (offOf v + i * 4 + 1)) h485 rfl fun a486 h486 => ?_; clear h485
        refine pk (v := .string y163.s) h486 rfl (rn_load1 rfl rfl Tryd.isAgg9 ((sl_at (hs.below hB476) hy163) 1 _ rfl)) fun a487 h487 => ?_; clear h486
        refine pw h487 rfl (op_new (v := fun N => .slice (some ⟨N, 0, none⟩) 1 1) (T := 9) (cs := #[.string y163.s]) (by kernel_rfl) (by kernel_rfl) (by kernel_rfl)) ?_; clear h487
        rintro _ w489 a488 ⟨N490, rfl, hN493, hz494, hk492, hg491⟩ h488
        have hr496 := rowD hf68 (by unfold offD; decide) hx475
        have ha495 := row_fresh hr496 hN493
        have hz497 := hg491.size
        try dsimp only at h488
        have hr504 := row_kept_new hr496 hg491
        refine pw h488 rfl (op_append rfl w.heap.size 9 (z := .string (⟨#[]⟩)) (size := 1) (bytes := 16) Tryd.underlying28 (by kernel_rfl) rfl rfl rfl hr504 rfl hk492 rfl (by kernel_rfl) (by first | omega | (simp only [List.length_nil, List.length_append, List.length_cons, List.length_take, List.length_drop]; omega)) (by first | omega | (simp only [List.length_nil, List.length_append, List.length_cons, List.length_take, List.length_drop]; omega)) (by omega)) ?_; clear h488
        rintro v500 w499 a498 ⟨hr501, hg502⟩ h498
        have hr501' : w499.ownsRow w.heap.size 9 1 v500 (((txtA A ++ xs) ++ [y163.s]).length) (((txtA A ++ xs) ++ [y163.s]).flatMap strE) := row_push (y := y163.s) hr501 rfl rfl; clear hr501
        have hz505 := hg502.size
        refine pk0 (v := v500) h498 rfl fun a506 h506 => ?_; clear h498
        refine pl_nil ?_
        refine co_blockN ?_
        refine co_blockN ?_
        refine co_then ?_
        refine co_reg ?_
        refine pk0 (v := .int .i64 ((i : Nat) : Int)) h506 rfl fun a507 h507 => ?_; clear h506
        refine pk (v := .int .i64 ((i + 1 : Nat) : Int)) h507 rfl (rn_arith' rfl rfl rfl rfl rfl rfl (IntWalk.i64_in _ (by omega)) (by omega)) fun a508 h508 => ?_; clear h507
        refine pk0 (v := .int .i64 ((i + 1 : Nat) : Int)) h508 rfl fun a509 h509 => ?_; clear h508
        refine pl_nil ?_
        refine co_then ?_
        refine ⟨(l.length - (i + 1)), by omega, ?_⟩
        have hd510 := hd474.new hg491
        have hd511 := hd510.row hr504 (by unfold offD; decide) hg502
        have hk512 := blkD hf67 (by unfold offD; decide) hx475
        have hk513 := hk512.kept hg491 (by simp)
        have hk514 := hk513.kept hg502 (own_neT hr504 hk513 (by decide))
        have hB515 := hb_new hB476 hg491
        have hB516 := hb_row hB515 hr504 (by omega) hg502
        exact ⟨i + 1, A, (xs ++ [y163.s]), v500, N, h509.sub ⟨rfl, rfl, rfl, rfl, rfl, rfl, trivial⟩, rfl, by omega, by omega, (WlO.up hd511 (by omega)), hk514, (row_eq hr501' (by first | rfl | (simp; done) | (rw [txt_run]; simp; done) | (rw [List.append_assoc]))), hB516⟩
end Go.Proofs.YtfiplhnplmadmaaDoor

/- Slices of any elements that came in, opened by their readings. Conditions: none. -/
namespace Go.Proofs.YtfiplhnplmadmaaDoor
open Go.RowKit Go.ChangeShapes Go.WideShapes Go.Deep

section
variable {H : Type} {enc : TypeId × Value → H} {P : Program} {w : World} {base : Nat} {spare : Nat → Bool} {held : Bool}
theorem open_rows {α : Type} [Inhabited α] {t e : TypeId} {fuel : Nat} {cs : List Value} {x : DataW H × List MemPlace} (E : α → List Value) (sz : Nat) (good : α → Prop)
    (ht : P.underlying t = some (.slice e)) (hC : P.cellsOf e = sz) (hpos : 0 < sz)
    (elem : ∀ n cs x, DataW.trod enc P w base spare held n e cs = some x → ∃ a : α, cs = E a ∧ good a)
    (h : DataW.trod enc P w base spare held fuel t cs = some x) :
    ∃ (l : List α) (v : Value), cs = [v] ∧ SliceOf E sz w v l ∧ ∀ a ∈ l, good a := by
  rcases open_slice ht h with ⟨hcs, _⟩ | ⟨a, len, cap, m, n, D, Pl, hcs, _, hl, hm, hmm, _, hi⟩
  · exact ⟨[], _, hcs, SliceOf.nil _ _ _, by simp⟩
  · have hlm : len ≤ m := by rw [hmm]; split <;> omega
    rw [hC] at hi
    obtain ⟨f, hf⟩ := choose_lt (α := α) (n := len) (p := fun i y => (∀ j u, (E y)[j]? = some u → w.cell? ((a.add (i * sz)).add j) = some u) ∧ good y ∧ (E y).length = sz) (fun i hilt => by
      obtain ⟨cs', hc, ht'⟩ := hi i (by omega)
      obtain ⟨y, rfl, hg⟩ := elem n cs' _ ht'
      obtain ⟨_, hcl, hat⟩ := World.cells?_some hc
      exact ⟨y, fun j u hu => by
        have hj : j < (E y).length := (List.getElem?_eq_some_iff.1 hu).1
        rw [hat j (by omega), hu], hg, hcl⟩)
    refine ⟨(List.range len).map f, _, hcs, ⟨some a, cap, by simp, by simpa using hl, by unfold maxLen at hm; omega, fun h => (by cases h), fun j hj => ?_⟩, fun y hy => ?_⟩
    · have hj' : j < len := by simpa using hj
      obtain ⟨b, off, spot⟩ := a
      have hspot : spot = none := by
        obtain ⟨h1, _, h3⟩ := hf 0 (by omega)
        have hc0 := h1 0 _ (List.getElem?_eq_getElem (show 0 < (E (f 0)).length by omega))
        simpa [Addr.add] using World.cell?_spot hc0
      subst hspot
      refine ⟨b, off, rfl, fun i u hu => ?_⟩
      have := (hf j hj').1 i u (by simpa using hu)
      rw [Addr.add_lit, Addr.add_lit] at this
      exact this
    · obtain ⟨i, hi', rfl⟩ := List.mem_map.1 hy
      exact (hf i (List.mem_range.1 hi')).2.1
end
end Go.Proofs.YtfiplhnplmadmaaDoor

/- catenalaw12: the calls opened. Conditions: none. -/
namespace Go.Proofs.YtfiplhnplmadmaaDoor
open Go.RowKit Go.PlainAid
set_option linter.unusedVariables false
section
variable {H : Type} {enc : TypeId × Value → H} {w : World} {base : Nat} {spare : Nat → Bool} {held : Bool}
set_option maxRecDepth 10000 in
theorem elem_wact (n : Nat) (cs : List Value) (x : DataW H × List MemPlace) (h : DataW.trod enc Tryd.prog w base spare held n 33 cs = some x) : ∃ a, cs = wactE a ∧ WActOk a := by
  obtain ⟨xs, m, _, _, hl, hxl, hf⟩ := DataW.trod_struct Tryd.underlying33 h
  have hl4 : cs.length = 4 := hl
  have hx2 : xs.length = 4 := hxl
  clear hl hxl
  match cs, hl4, xs, hx2 with
  | [c0, c1, c2, c3], _, [y0, y1, y2, y3], _ =>
    have h0' : DataW.trod enc Tryd.prog w base spare held m 3 [c0] = some y0 := hf 0 _ rfl
    have h1' : DataW.trod enc Tryd.prog w base spare held m 9 [c1] = some y1 := hf 1 _ rfl
    have h2' : DataW.trod enc Tryd.prog w base spare held m 3 [c2] = some y2 := hf 2 _ rfl
    have h3' : DataW.trod enc Tryd.prog w base spare held m 3 [c3] = some y3 := hf 3 _ rfl
    obtain ⟨a, e0, _, w0⟩ := DataW.trod_int Tryd.underlying3 h0'
    obtain ⟨b, e1, _, w1⟩ := DataW.trod_string Tryd.underlying9 h1'
    obtain ⟨c, e2, _, w2⟩ := DataW.trod_int Tryd.underlying3 h2'
    obtain ⟨d, e3, _, w3⟩ := DataW.trod_int Tryd.underlying3 h3'
    simp only [List.cons.injEq, and_true] at e0 e1 e2 e3
    subst e0 e1 e2 e3
    exact ⟨⟨a, b, c, d⟩, rfl, wf_i64 w2⟩
theorem open_wacts {fuel : Nat} {cs : List Value} {x : DataW H × List MemPlace} (h : DataW.trod enc Tryd.prog w base spare held fuel 22 cs = some x) :
    ∃ (l : List WActT) (v : Value), cs = [v] ∧ SliceOf wactE 4 w v l ∧ ∀ p ∈ l, WActOk p :=
  open_rows wactE 4 WActOk Tryd.underlying22 (by kernel_rfl) (by omega) elem_wact h
end
end Go.Proofs.YtfiplhnplmadmaaDoor

/- The table as it is laid: what the row's condition gives the walks. Conditions: none. -/
namespace Go.Proofs.YtfiplhnplmadmaaDoor
open Go.RowKit

def laidList {H : Type} : List (String × DataW H) := [("catena/sum.halves", Rows.laid_catena_sum_halves)]
def halvesZ : List Int := [0, 498536548, 997073096, 651767980, 1994146192, 1802195444, 1303535960, 1342533948, 3988292384, 4027552580, 3604390888, 3412177804, 2607071920, 2262029012, 2685067896, 3183342108]
theorem halves_at : ∀ i, i < 16 → halvesZ.getD i 0 = ((lfn 4 i : Nat) : Int) := by decide
theorem tab_of_laid {W : World} (h : laidMetH Tryd.prog laidList W) : Tab W := by
  rw [MakeChecks.laidMetH_plain _ _ _ (by kernel_rfl)] at h
  have hg : Tryd.prog.globalNamed "catena/sum.halves" = some 0 := by kernel_rfl
  have ht := Lib.tabIs_of_head (P := Tryd.prog) (W := W) (name := "catena/sum.halves") (k := .u32) (zs := halvesZ) (rest := []) (g := 0) (t := 111) (e := 94) (n := 16) hg (by kernel_rfl) Tryd.underlying111 Tryd.underlying94 (by kernel_rfl) (by kernel_rfl) h
  intro i hi
  have := ht.cell hg i (by simpa [halvesZ] using hi)
  rw [halves_at i hi] at this
  exact this
theorem door_met (os : Os) (args : Array Value) : laidMetH Tryd.prog laidList ((World.doorLaid Tryd.prog 400 os).forCall (fun _ _ => 0) ⟨#[], args, []⟩).memory :=
  laidMetH_of_parts3 (fuel := 8) (laidMet_of_run' 8 (by kernel_rfl) (by kernel_rfl)) (by kernel_rfl) (by kernel_rfl)
end Go.Proofs.YtfiplhnplmadmaaDoor
