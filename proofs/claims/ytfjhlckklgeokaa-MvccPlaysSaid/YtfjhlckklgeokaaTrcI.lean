/- Package tree, of lists of cells: what a tree holds, as a rising list. Conditions: none. -/
import Derived.Test.YtfjhlckklgeokaaTrcF
namespace Go.Proofs.Ytfjhlckklgeokaa
open Go.RowKit Go.PlainAid
set_option linter.unusedVariables false

theorem tbl_irr : ∀ x : List UInt8, Op.bytesLess x x = false
  | [] => rfl
  | a :: x => by
    have ih := tbl_irr x
    show (decide (a < a) || (a == a && Op.bytesLess x x)) = false
    have h2 : ¬ a < a := fun q => by have : a.toNat < a.toNat := q; omega
    simp [h2, ih]
theorem tbl_cons {a b : UInt8} {x y : List UInt8} : Op.bytesLess (a :: x) (b :: y) = true ↔ a < b ∨ (a = b ∧ Op.bytesLess x y = true) := by
  show (decide (a < b) || (a == b && Op.bytesLess x y)) = true ↔ _
  simp
theorem tbl_trans : ∀ x y z : List UInt8, Op.bytesLess x y = true → Op.bytesLess y z = true → Op.bytesLess x z = true
  | x, [], z, h, _ => by cases x <;> cases h
  | x, _ :: _, [], _, h => by cases h
  | [], _ :: _, _ :: _, _, _ => rfl
  | a :: x, b :: y, c :: z, h1, h2 => by
    rw [tbl_cons] at h1 h2 ⊢
    rcases h1 with h1 | ⟨rfl, h1⟩
    · rcases h2 with h2 | ⟨rfl, h2⟩
      · exact .inl (by have p : a.toNat < b.toNat := h1; have q : b.toNat < c.toNat := h2; show a.toNat < c.toNat; omega)
      · exact .inl h1
    · rcases h2 with h2 | ⟨rfl, h2⟩
      · exact .inl h2
      · exact .inr ⟨rfl, tbl_trans x y z h1 h2⟩
theorem klt_irr (k : ByteArray) : klt k k = false := tbl_irr _
theorem klt_tr {a b c : ByteArray} (h : klt a b = true) (h2 : klt b c = true) : klt a c = true := tbl_trans _ _ _ h h2
theorem klt_as {a b : ByteArray} (h : klt a b = true) : klt b a = false := by
  cases hb : klt b a with
  | false => rfl
  | true => have := klt_tr h hb; rw [klt_irr] at this; cases this
theorem klt_eq {a b : ByteArray} (h : klt a b = false) (h2 : klt b a = false) : a = b := by
  have h3 := tbl_flip a.toList b.toList
  have e1 : Op.bytesLess a.toList b.toList = false := h
  have e2 : Op.bytesLess b.toList a.toList = false := h2
  rw [e1, e2] at h3
  have h4 : a.toList = b.toList := by simpa using h3
  rw [Go.ByteArray.toList_eq, Go.ByteArray.toList_eq] at h4
  exact Go.WideShapes.bytes_inj h4
abbrev Kv := ByteArray × SlT
def Srt (L : List Kv) : Prop := L.Pairwise (fun a b => klt a.1 b.1 = true)
def insL : List Kv → ByteArray → SlT → List Kv
  | [], k, v => [(k, v)]
  | a :: r, k, v => if klt k a.1 = true then (k, v) :: a :: r else if klt a.1 k = true then a :: insL r k v else (a.1, v) :: r
def delL : List Kv → ByteArray → List Kv
  | [], _ => []
  | a :: r, k => if klt k a.1 = true then a :: r else if klt a.1 k = true then a :: delL r k else r
def hasL : List Kv → ByteArray → Bool
  | [], _ => false
  | a :: r, k => if klt k a.1 = true then false else if klt a.1 k = true then hasL r k else true
def getL : List Kv → ByteArray → SlT
  | [], _ => ⟨none, 0, 0⟩
  | a :: r, k => if klt k a.1 = true then ⟨none, 0, 0⟩ else if klt a.1 k = true then getL r k else a.2
section
variable {k k' : ByteArray} {v v' : SlT} {A B : List Kv} {a : Kv}
theorem insL_l (h : klt k a.1 = true) : insL (A ++ a :: B) k v = insL A k v ++ a :: B := by
  induction A with
  | nil => simp [insL, h]
  | cons c r ih => simp only [List.cons_append, insL, ih]; split <;> (try split) <;> simp
theorem insL_r (h : ∀ c ∈ A, klt c.1 k = true) : insL (A ++ B) k v = A ++ insL B k v := by
  induction A with
  | nil => rfl
  | cons c r ih =>
    have hc := h c (by simp)
    simp only [List.cons_append, insL, klt_as hc, hc, if_true, Bool.false_eq_true, if_false, ih (fun d hd => h d (by simp [hd]))]
theorem delL_l (h : klt k a.1 = true) : delL (A ++ a :: B) k = delL A k ++ a :: B := by
  induction A with
  | nil => simp [delL, h]
  | cons c r ih => simp only [List.cons_append, delL, ih]; split <;> (try split) <;> simp
theorem delL_r (h : ∀ c ∈ A, klt c.1 k = true) : delL (A ++ B) k = A ++ delL B k := by
  induction A with
  | nil => rfl
  | cons c r ih =>
    have hc := h c (by simp)
    simp only [List.cons_append, delL, klt_as hc, hc, if_true, Bool.false_eq_true, if_false, ih (fun d hd => h d (by simp [hd]))]
theorem hasL_l (h : klt k a.1 = true) : hasL (A ++ a :: B) k = hasL A k := by
  induction A with
  | nil => simp [hasL, h]
  | cons c r ih => simp only [List.cons_append, hasL, ih]
theorem hasL_r (h : ∀ c ∈ A, klt c.1 k = true) : hasL (A ++ B) k = hasL B k := by
  induction A with
  | nil => rfl
  | cons c r ih =>
    have hc := h c (by simp)
    simp only [List.cons_append, hasL, klt_as hc, hc, if_true, Bool.false_eq_true, if_false, ih (fun d hd => h d (by simp [hd]))]
theorem getL_l (h : klt k a.1 = true) : getL (A ++ a :: B) k = getL A k := by
  induction A with
  | nil => simp [getL, h]
  | cons c r ih => simp only [List.cons_append, getL, ih]
theorem getL_r (h : ∀ c ∈ A, klt c.1 k = true) : getL (A ++ B) k = getL B k := by
  induction A with
  | nil => rfl
  | cons c r ih =>
    have hc := h c (by simp)
    simp only [List.cons_append, getL, klt_as hc, hc, if_true, Bool.false_eq_true, if_false, ih (fun d hd => h d (by simp [hd]))]
theorem insL_len (L : List Kv) : (insL L k v).length = L.length + (if hasL L k = true then 0 else 1) := by
  induction L with
  | nil => simp [insL, hasL]
  | cons c r ih => simp only [insL, hasL]; split <;> (try split) <;> simp_all <;> omega
theorem delL_len (L : List Kv) : (delL L k).length + (if hasL L k = true then 1 else 0) = L.length := by
  induction L with
  | nil => simp [delL, hasL]
  | cons c r ih => simp only [delL, hasL]; split <;> (try split) <;> simp_all <;> omega
theorem insL_mem {L : List Kv} {c : Kv} (h : c ∈ insL L k v) : c.1 = k ∨ ∃ d ∈ L, d.1 = c.1 := by
  induction L with
  | nil => simp [insL] at h; exact .inl (by rw [h])
  | cons a r ih =>
    unfold insL at h
    split at h
    · rcases List.mem_cons.1 h with rfl | h
      · exact .inl rfl
      · exact .inr ⟨c, h, rfl⟩
    · split at h
      · rcases List.mem_cons.1 h with rfl | h
        · exact .inr ⟨c, by simp, rfl⟩
        · rcases ih h with h | ⟨d, hd, e⟩
          · exact .inl h
          · exact .inr ⟨d, by simp [hd], e⟩
      · rcases List.mem_cons.1 h with rfl | h
        · exact .inr ⟨a, by simp, rfl⟩
        · exact .inr ⟨c, by simp [h], rfl⟩
theorem insL_srt {L : List Kv} (h : Srt L) : Srt (insL L k v) := by
  induction L with
  | nil => simp [insL, Srt]
  | cons a r ih =>
    obtain ⟨h1, h2⟩ := List.pairwise_cons.1 h
    unfold insL
    split
    · rename_i q
      exact List.pairwise_cons.2 ⟨fun c hc => by rcases List.mem_cons.1 hc with rfl | hc; exact q; exact klt_tr q (h1 c hc), h⟩
    · split
      · rename_i q
        refine List.pairwise_cons.2 ⟨fun c hc => ?_, ih h2⟩
        rcases insL_mem hc with e | ⟨d, hd, e⟩
        · rw [e]; exact q
        · rw [← e]; exact h1 d hd
      · exact List.pairwise_cons.2 ⟨fun c hc => h1 c hc, h2⟩
theorem delL_sub (L : List Kv) : (delL L k).Sublist L := by
  induction L with
  | nil => exact List.Sublist.slnil
  | cons a r ih => unfold delL; split; exact List.Sublist.refl _; split; exact ih.cons_cons _; exact List.sublist_cons_self _ _
theorem delL_srt {L : List Kv} (h : Srt L) : Srt (delL L k) := h.sublist (delL_sub L)
end
theorem Srt.parts {A B : List Kv} {a : Kv} (h : Srt (A ++ a :: B)) : Srt A ∧ Srt B ∧ (∀ c ∈ A, klt c.1 a.1 = true) ∧ ∀ c ∈ B, klt a.1 c.1 = true := by
  obtain ⟨h1, h2, h3⟩ := List.pairwise_append.1 h
  obtain ⟨h4, h5⟩ := List.pairwise_cons.1 h2
  exact ⟨h1, h5, fun c hc => h3 c hc a (by simp), h4⟩
theorem has_il : ∀ (t : Tm) (k : ByteArray), Srt (il t) → hasT t k = hasL (il t) k
  | .nil, _, _ => rfl
  | .nd b l k' v' d r, k, h => by
    obtain ⟨hl, hr, h1, h2⟩ := Srt.parts h
    show _ = hasL (il l ++ (k', v') :: il r) k
    by_cases q1 : klt k k' = true
    · rw [hasT_l q1, hasL_l q1, has_il l k hl]
    · have q1' : klt k k' = false := by simpa using q1
      by_cases q2 : klt k' k = true
      · rw [hasT_r q1' q2, hasL_r (fun c hc => klt_tr (h1 c hc) q2), has_il r k hr]
        simp [hasL, q1', q2]
      · have q2' : klt k' k = false := by simpa using q2
        have e := klt_eq q1' q2'; subst e
        rw [hasT_e q1' q2', hasL_r h1]
        simp [hasL, klt_irr]
theorem put_il (k : ByteArray) (v : SlT) (N : Nat) : ∀ t : Tm, Avl t → Srt (il t) → il (putT t k v N) = insL (il t) k v
  | .nil, _, _ => rfl
  | .nd b l k' v' d r, ha, h => by
    obtain ⟨a1, a2, a3, a4, a5⟩ := ha
    obtain ⟨hl, hr, h1, h2⟩ := Srt.parts h
    show _ = insL (il l ++ (k', v') :: il r) k v
    by_cases q1 : klt k k' = true
    · rw [putT_l q1, balT_il (put_avl k v N l a1).1 a2, insL_l (a := (k', v')) q1, put_il k v N l a1 hl]
    · have q1' : klt k k' = false := by simpa using q1
      by_cases q2 : klt k' k = true
      · rw [putT_r q1' q2, balT_il a1 (put_avl k v N r a2).1, insL_r (fun c hc => klt_tr (h1 c hc) q2), put_il k v N r a2 hr]
        simp [insL, q1', q2]
      · have q2' : klt k' k = false := by simpa using q2
        have e := klt_eq q1' q2'; subst e
        rw [putT_e q1' q2', insL_r h1]
        simp [insL, klt_irr, il]
theorem lm_il : ∀ t : Tm, isNil t = false → ∃ tl, il t = lmT t :: tl
  | .nil, h => by cases h
  | .nd b l k v d r, _ => by
    cases hl : isNil l with
    | true => rw [lmT_nil hl]; have := isNil_t hl; subst this; exact ⟨il r, rfl⟩
    | false =>
      obtain ⟨tl, e⟩ := lm_il l hl
      rw [lmT_nd hl]
      exact ⟨tl ++ (k, v) :: il r, by show il l ++ _ = _; rw [e]; rfl⟩
theorem del_il : ∀ (t : Tm) (k : ByteArray), Avl t → Srt (il t) → il (delT t k) = delL (il t) k
  | .nil, _, _, _ => rfl
  | .nd b l k' v' d r, k, ha, h => by
    obtain ⟨a1, a2, a3, a4, a5⟩ := ha
    obtain ⟨hl, hr, h1, h2⟩ := Srt.parts h
    show _ = delL (il l ++ (k', v') :: il r) k
    by_cases q1 : klt k k' = true
    · rw [delT_l q1, balT_il (del_avl l k a1).1 a2, delL_l (a := (k', v')) q1, del_il l k a1 hl]
    · have q1' : klt k k' = false := by simpa using q1
      by_cases q2 : klt k' k = true
      · rw [delT_r q1' q2, balT_il a1 (del_avl r k a2).1, delL_r (fun c hc => klt_tr (h1 c hc) q2), del_il r k a2 hr]
        simp [delL, q1', q2]
      · have q2' : klt k' k = false := by simpa using q2
        have e := klt_eq q1' q2'; subst e
        rw [delL_r h1]
        have e2 : delL ((k, v') :: il r) k = il r := by simp [delL, klt_irr]
        rw [e2]
        cases n1 : isNil l with
        | true => rw [delT_e1 q1' q2' n1, isNil_t n1]; rfl
        | false =>
          cases n2 : isNil r with
          | true => rw [delT_e2 q1' q2' n1 n2, isNil_t n2]; simp [il]
          | false =>
            obtain ⟨tl, e3⟩ := lm_il r n2
            rw [delT_e3 q1' q2' n1 n2, balT_il a1 (del_avl r _ a2).1, del_il r _ a2 hr, e3]
            simp [delL, klt_irr]
theorem del_sz' {t : Tm} {k : ByteArray} (ha : Avl t) (h : Srt (il t)) : sz (delT t k) + (if hasT t k = true then 1 else 0) = sz t := by
  rw [← il_len, ← il_len, del_il t k ha h, has_il t k h]; exact delL_len _
theorem put_srt {t : Tm} {k : ByteArray} {v : SlT} {N : Nat} (ha : Avl t) (h : Srt (il t)) : Srt (il (putT t k v N)) := by rw [put_il k v N t ha h]; exact insL_srt h
theorem del_srt {t : Tm} {k : ByteArray} (ha : Avl t) (h : Srt (il t)) : Srt (il (delT t k)) := by rw [del_il t k ha h]; exact delL_srt h
/-- The walk tells the keys from F on. -/
def wkL (F : ByteArray) (L : List Kv) : List ByteArray := (L.filter (fun a => !klt a.1 F)).map (·.1)
end Go.Proofs.Ytfjhlckklgeokaa
