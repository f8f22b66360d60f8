/- Package rlog: what is right stays right (pure; as far as adopt needs it). Conditions: none. -/
import Derived.Test.YtlbemlodcdgakaaAdUSh
namespace Go.Proofs.Ytlbemlodcdgakaa
open Go.RowKit Go.PlainAid
set_option linter.unusedVariables false


theorem kbl_nil (l : List UInt8) : Op.bytesLess l [] = false := by cases l <;> rfl
theorem kbl_cons (a b : UInt8) (x y : List UInt8) : Op.bytesLess (a :: x) (b :: y) = (decide (a < b) || (a == b && Op.bytesLess x y)) := rfl
theorem kbl_trans : ∀ (x y z : List UInt8), Op.bytesLess x y = true → Op.bytesLess y z = true → Op.bytesLess x z = true
  | _, [], _, h, _ => by rw [kbl_nil] at h; cases h
  | _, _ :: _, [], _, h => by rw [kbl_nil] at h; cases h
  | [], _ :: _, _ :: _, _, _ => rfl
  | a :: x, b :: y, c :: z, h, k => by
    rw [kbl_cons, Bool.or_eq_true, Bool.and_eq_true, decide_eq_true_eq, beq_iff_eq] at h k ⊢
    have ih := kbl_trans x y z
    rcases h with h | ⟨rfl, h⟩ <;> rcases k with k | ⟨rfl, k⟩
    · left; exact UInt8.lt_trans h k
    · left; exact h
    · left; exact k
    · right; exact ⟨rfl, ih h k⟩
def keyLt (a b : OpT) : Prop := Op.bytesLess a.1.toList b.1.toList = true
theorem chkL_iff : ∀ (l : List OpT) (p : Option ByteArray), chkL p l = 0 ↔ (∀ o ∈ l, chkOp o = 0) ∧ l.Pairwise keyLt ∧ (∀ q, p = some q → ∀ o ∈ l, Op.bytesLess q.toList o.1.toList = true)
  | [], p => by simp [chkL]
  | o :: r, p => by
    have ih := chkL_iff r (some o.1)
    simp only [chkL]
    by_cases h1 : chkOp o ≠ 0
    · rw [if_pos h1]
      exact ⟨fun h => absurd h h1, fun h => absurd (h.1 o (by simp)) h1⟩
    · rw [if_neg h1]
      have h1' : chkOp o = 0 := by omega
      by_cases h2 : keyUp p o.1 = true
      · rw [if_pos h2, ih]
        constructor
        · rintro ⟨k1, k2, k3⟩
          have k4 := k3 o.1 rfl
          refine ⟨?_, List.pairwise_cons.2 ⟨fun x hx => k4 x hx, k2⟩, ?_⟩
          · intro x hx; rw [List.mem_cons] at hx; rcases hx with rfl | hx; exact h1'; exact k1 x hx
          · rintro q rfl x hx
            have h2' : Op.bytesLess q.toList o.1.toList = true := h2
            rw [List.mem_cons] at hx; rcases hx with rfl | hx; exact h2'; exact kbl_trans _ _ _ h2' (k4 x hx)
        · rintro ⟨k1, k2, k3⟩
          rw [List.pairwise_cons] at k2
          exact ⟨fun x hx => k1 x (List.mem_cons_of_mem _ hx), k2.2, fun q hq x hx => by cases hq; exact k2.1 x hx⟩
      · rw [if_neg h2]
        refine ⟨(fun h => by cases h), fun h => ?_⟩
        cases p with
        | none => exact absurd rfl h2
        | some q => exact absurd (h.2.2 q rfl o (by simp)) h2
theorem chkB_iff (c r : Int) (l : List OpT) : chkB c r l = 0 ↔ (0 ≤ c ∧ c < 3) ∧ (1 ≤ r ∧ r ≤ 1073741824) ∧ l.length ≤ 4 ∧ (∀ o ∈ l, chkOp o = 0) ∧ l.Pairwise keyLt := by
  have hk : chkL none l = 0 ↔ (∀ o ∈ l, chkOp o = 0) ∧ l.Pairwise keyLt := by rw [chkL_iff]; simp
  unfold chkB
  by_cases h1 : c < 0 ∨ c ≥ 3
  · rw [if_pos h1]; exact ⟨(fun h => by cases h), fun h => by omega⟩
  · rw [if_neg h1]
    by_cases h2 : r < 1 ∨ r > 1073741824
    · rw [if_pos h2]; exact ⟨(fun h => by cases h), fun h => by omega⟩
    · rw [if_neg h2]
      by_cases h3 : ((l.length : Nat) : Int) > 4
      · rw [if_pos h3]; exact ⟨(fun h => by cases h), fun h => by omega⟩
      · rw [if_neg h3, hk]; exact ⟨fun h => ⟨by omega, by omega, by omega, h.1, h.2⟩, fun h => ⟨h.2.2.2.1, h.2.2.2.2⟩⟩
/-- A log that is right. -/
structure RI (L : List EntT) : Prop where
  chk : ∀ e ∈ L, chkB e.client e.req e.opl = 0
  uq : UqN L
  up : ∀ i y p, L[i + 1]? = some y → L[i]? = some p → y.ts ≠ 0 → p.ts ≠ 0 ∧ p.ts < y.ts
theorem RI.nil : RI [] := ⟨fun e he => by simp at he, by simp [UqN], fun i y p h => by simp at h⟩
theorem RI.e0 {A B : List EntT} (h : A.map e0 = B.map e0) (hA : RI A) : RI B := by
  have ba := h.symm
  refine ⟨fun e he => ?_, hA.uq.nm (e0_f (f := nmE) (fun _ => rfl) ba), fun i y p hy hp hn => ?_⟩
  · obtain ⟨i, hi⟩ := List.getElem?_of_mem he
    obtain ⟨z, hz, e1⟩ := e0_at ba hi
    obtain ⟨_, k2, k3, k4⟩ := e0_ts e1
    rw [← k2, ← k3, ← k4]; exact hA.chk z (List.mem_of_getElem? hz)
  · obtain ⟨y', h1, e1⟩ := e0_at ba hy
    obtain ⟨p', h2, e2⟩ := e0_at ba hp
    have := hA.up i y' p' h1 h2 (by rw [(e0_ts e1).1]; exact hn)
    rw [(e0_ts e1).1, (e0_ts e2).1] at this; exact this
theorem rgF_0 : ∀ (r pre : List EntT), rgF pre r = 0 ↔ (∀ e ∈ r, chkB e.client e.req e.opl = 0) ∧ (∀ i y, r[i]? = some y → ¬ 0 < twN (pre ++ r.take i) y.client y.req) ∧ (∀ i y, r[i]? = some y → badT (pre ++ r.take i) y = false)
  | [], pre => by simp [rgF]
  | e :: r, pre => by
    have ih := rgF_0 r (pre ++ [e])
    rw [rgF]
    by_cases h1 : chkB e.client e.req e.opl ≠ 0
    · rw [if_pos h1]; exact ⟨fun h => absurd h h1, fun h => absurd (h.1 e (by simp)) h1⟩
    · rw [if_neg h1]
      by_cases h2 : 0 < twN pre e.client e.req
      · rw [if_pos h2]; exact ⟨(fun h => by cases h), fun h => absurd h2 (by simpa using h.2.1 0 e rfl)⟩
      · rw [if_neg h2]
        by_cases h3 : badT pre e = true
        · rw [if_pos h3]; exact ⟨(fun h => by cases h), fun h => by have := h.2.2 0 e rfl; simp [h3] at this⟩
        · rw [if_neg h3, ih]
          constructor
          · rintro ⟨k1, k2, k3⟩
            refine ⟨fun x hx => ?_, fun i y hy => ?_, fun i y hy => ?_⟩
            · rw [List.mem_cons] at hx; rcases hx with rfl | hx; omega; exact k1 x hx
            · cases i with
              | zero => simp at hy; subst hy; simpa using h2
              | succ i => simp at hy; have := k2 i y hy; simpa using this
            · cases i with
              | zero => simp at hy; subst hy; simpa using h3
              | succ i => simp at hy; have := k3 i y hy; simpa using this
          · rintro ⟨k1, k2, k3⟩
            refine ⟨fun x hx => k1 x (List.mem_cons_of_mem _ hx), fun i y hy => ?_, fun i y hy => ?_⟩
            · have := k2 (i + 1) y (by simpa using hy); simpa using this
            · have := k3 (i + 1) y (by simpa using hy); simpa using this
theorem rev_ind {α : Type} {p : List α → Prop} (h0 : p []) (h1 : ∀ l y, p l → p (l ++ [y])) (l : List α) : p l := by
  rw [← List.reverse_reverse l]
  induction l.reverse with
  | nil => exact h0
  | cons y r ih => rw [List.reverse_cons]; exact h1 _ _ ih
theorem twN_none {L : List EntT} {c r : Int} : ¬ 0 < twN L c r ↔ ∀ z ∈ L, nmE z ≠ (c, r) := by
  refine rev_ind (p := fun L => ¬ 0 < twN L c r ↔ ∀ z ∈ L, nmE z ≠ (c, r)) ?_ (fun l y ih => ?_) L
  · simp [twN]
  · rw [twN_snoc]
    have h0 := twN_pos l c r
    constructor
    · intro h z hz
      rw [List.mem_append, List.mem_singleton] at hz
      rcases hz with hz | rfl
      · exact ih.1 (by split at h <;> omega) z hz
      · intro e; simp only [nmE, Prod.mk.injEq] at e; rw [if_pos e] at h; omega
    · intro h
      have h1 := ih.2 (fun z hz => h z (by simp [hz]))
      have h2 : ¬ (y.client = c ∧ y.req = r) := fun q => h y (by simp) (by simp [nmE, q.1, q.2])
      rw [if_neg h2]; omega
theorem RI.right {L : List EntT} (h : RI L) : rightI L = 0 := by
  unfold rightI
  rw [rgF_0]
  refine ⟨h.chk, fun i y hy => ?_, fun i y hy => ?_⟩
  · rw [List.nil_append, twN_none]
    intro z hz e
    obtain ⟨j, hj⟩ := List.getElem?_of_mem hz
    have hl := (List.getElem?_eq_some_iff.1 hj).1
    rw [List.length_take] at hl
    rw [List.getElem?_take, if_pos (by omega)] at hj
    have := h.uq.at hj hy e
    omega
  · rw [List.nil_append]
    cases i with
    | zero => exact badM_0 rfl
    | succ i =>
      have hl := (List.getElem?_eq_some_iff.1 hy).1
      rw [bad_at (j := i) (by omega) (by omega) (List.getElem?_eq_getElem (by omega))]
      refine decide_eq_false (fun q => ?_)
      have := h.up i y _ hy (List.getElem?_eq_getElem (by omega)) q.1
      omega
theorem RI.of_right {L : List EntT} (h : rightI L = 0) : RI L := by
  unfold rightI at h
  rw [rgF_0] at h
  obtain ⟨h1, h2, h3⟩ := h
  refine ⟨h1, ?_, fun i y p hy hp hn => ?_⟩
  · unfold UqN
    rw [List.Nodup, List.pairwise_map, List.pairwise_iff_getElem]
    intro i j hi hj hij e
    have := h2 j L[j] (List.getElem?_eq_getElem hj)
    rw [List.nil_append, twN_none] at this
    exact this L[i] (List.mem_of_getElem? (i := i) (by rw [List.getElem?_take, if_pos hij]; exact List.getElem?_eq_getElem hi)) (by rw [e]; rfl)
  · have := h3 (i + 1) y hy
    rw [List.nil_append, bad_at (j := i) (by omega) (by omega) hp] at this
    have := of_decide_eq_false this
    omega
section
variable {L : List EntT} {i c r ts n h : Int} {l : List OpT}
theorem RI.take (h : RI L) (k : Nat) : RI (L.take k) := ⟨fun e he => h.chk e (List.mem_of_mem_take he), h.uq.take k, fun i y p hy hp hn => by
  have hl := (List.getElem?_eq_some_iff.1 hy).1
  rw [List.length_take] at hl
  rw [List.getElem?_take, if_pos (by omega)] at hy hp
  exact h.up i y p hy hp hn⟩
theorem setE_0 (h : setE L i c r l ts = 0) : 0 ≤ i ∧ i ≤ (L.length : Int) ∧ chkB c r l = 0 ∧ i < 100 ∧ findN (L.take i.toNat) (c, r) = none ∧ badT (L.take i.toNat) (EntT.mk c r (.slice none 0 0) l ts) = false := by
  unfold setE at h
  split at h
  · cases h
  · rename_i h1
    split at h
    · rename_i h2; exact absurd h h2
    · rename_i h2
      split at h
      · cases h
      · rename_i h3
        split at h
        · cases h
        · rename_i h4
          split at h
          · cases h
          · rename_i h5
            refine ⟨by omega, by omega, by omega, by omega, ?_, by simpa using h5⟩
            cases hf : findN (L.take i.toNat) (c, r) with
            | none => rfl
            | some a => rw [hf] at h4; exact absurd rfl h4
theorem bad_pre {k : Nat} {p : EntT} {v : Value} (hb : badT (L.take (k + 1)) (EntT.mk c r v l ts) = false) (hp : L[k]? = some p) (hn : ts ≠ 0) : p.ts ≠ 0 ∧ p.ts < ts := by
  rw [bad_at (j := k) (by omega) (by omega) hp] at hb
  have := of_decide_eq_false hb
  simp only [] at this
  omega
theorem RI.set (hR : RI L) : RI (setL L i c r l ts) := by
  by_cases h0 : setE L i c r l ts ≠ 0
  · rw [setL_no h0]; exact hR
  · have h0' : setE L i c r l ts = 0 := by omega
    obtain ⟨k1, k2, k3, k4, k5, k6⟩ := setE_0 h0'
    by_cases h1 : (L[i.toNat]?).map nmE = some (c, r)
    · rw [setL_tw h0' h1]
      obtain ⟨y0, hy0, _⟩ := Option.map_eq_some_iff.1 h1
      by_cases hts : y0.ts = ts
      · rw [restF_same hy0 hts]; exact hR
      · rw [← restF_ne (k := L.length) hy0 hts (Nat.le_refl _)]
        have hil := (List.getElem?_eq_some_iff.1 hy0).1
        have hat : ∀ j y, (rsL L i.toNat ts L.length)[j]? = some y → ∃ z, L[j]? = some z ∧ y.client = z.client ∧ y.req = z.req ∧ y.opl = z.opl ∧ y.ts = if j = i.toNat then ts else if i.toNat < j then 0 else z.ts := by
          intro j y hy
          simp only [rsL, List.getElem?_mapIdx] at hy
          obtain ⟨z, hz, rfl⟩ := Option.map_eq_some_iff.1 hy
          have hjl := (List.getElem?_eq_some_iff.1 hz).1
          refine ⟨z, hz, ?_⟩
          by_cases e1 : j = i.toNat
          · rw [if_pos e1, if_pos e1]; exact ⟨rfl, rfl, rfl, rfl⟩
          · rw [if_neg e1, if_neg e1]
            by_cases e2 : i.toNat < j
            · rw [if_pos ⟨e2, hjl⟩, if_pos e2]; exact ⟨rfl, rfl, rfl, rfl⟩
            · rw [if_neg (fun q => e2 q.1), if_neg e2]; exact ⟨rfl, rfl, rfl, rfl⟩
        refine ⟨fun e he => ?_, hR.uq.nm (rsL_nm _ _ _ _), fun j y p hy hp hn => ?_⟩
        · obtain ⟨j, hj⟩ := List.getElem?_of_mem he
          obtain ⟨z, hz, q1, q2, q3, _⟩ := hat j e hj
          rw [q1, q2, q3]; exact hR.chk z (List.mem_of_getElem? hz)
        · obtain ⟨y', hy', _, _, _, q1⟩ := hat _ y hy
          obtain ⟨p', hp', _, _, _, q2⟩ := hat _ p hp
          rw [q1] at hn ⊢; rw [q2]
          by_cases e1 : j + 1 = i.toNat
          · rw [if_pos e1] at hn ⊢
            rw [if_neg (by omega), if_neg (by omega)]
            rw [← e1] at k6
            exact bad_pre k6 hp' hn
          · rw [if_neg e1] at hn ⊢
            by_cases e2 : i.toNat < j + 1
            · rw [if_pos e2] at hn; exact absurd rfl hn
            · rw [if_neg e2] at hn ⊢
              rw [if_neg (by omega), if_neg (by omega)]
              exact hR.up j y' p' hy' hp' hn
    · rw [setL_nw h0' h1]
      have hT := hR.take i.toNat
      have hlen : (L.take i.toNat).length = i.toNat := by rw [List.length_take]; omega
      refine ⟨fun e he => ?_, hT.uq.snoc k5, fun j y p hy hp hn => ?_⟩
      · rw [List.mem_append, List.mem_singleton] at he
        rcases he with he | rfl; exact hT.chk e he; exact k3
      · have hjl := (List.getElem?_eq_some_iff.1 hy).1
        rw [List.length_append, hlen] at hjl
        simp at hjl
        by_cases e1 : j + 1 < i.toNat
        · rw [List.getElem?_append_left (by omega)] at hy hp
          exact hT.up j y p hy hp hn
        · have e2 : j + 1 = i.toNat := by omega
          rw [List.getElem?_append_right (by omega), hlen, e2, Nat.sub_self] at hy
          simp at hy; subst hy
          rw [List.getElem?_append_left (by omega), List.getElem?_take, if_pos (by omega)] at hp
          rw [← e2] at k6
          exact bad_pre k6 hp hn
theorem stN_at : ∀ {L : List EntT} {j : Nat} {y : EntT}, j < stN L → L[j]? = some y → y.ts ≠ 0
  | [], j, y, h, hy => by simp at hy
  | e :: r, j, y, h, hy => by
    unfold stN at h
    rw [List.takeWhile_cons] at h
    by_cases he : e.ts ≠ 0
    · rw [if_pos (by simpa using he)] at h
      cases j with
      | zero => simp at hy; subst hy; exact he
      | succ j => simp at hy; exact stN_at (L := r) (by unfold stN; simpa using h) hy
    · rw [if_neg (by simpa using he)] at h; simp at h
theorem stN_zero : ∀ {L : List EntT} {y : EntT}, L[stN L]? = some y → y.ts = 0
  | [], y, hy => by simp at hy
  | e :: r, y, hy => by
    unfold stN at hy
    rw [List.takeWhile_cons] at hy
    by_cases he : e.ts ≠ 0
    · rw [if_pos (by simpa using he)] at hy
      rw [List.length_cons, List.getElem?_cons_succ] at hy; exact stN_zero (L := r) (by unfold stN; exact hy)
    · rw [if_neg (by simpa using he)] at hy; simp at hy; subst hy; omega
theorem stE_0 (h : stE L i ts = 0) : 0 ≤ i ∧ i < (L.length : Int) ∧ ts ≠ 0 ∧ i = ((stN L : Nat) : Int) ∧ lastT L < ts := by
  unfold stE at h
  split at h
  · cases h
  · split at h
    · cases h
    · split at h
      · cases h
      · rename_i h1 h2 h3; refine ⟨by omega, by omega, h2, by omega, by omega⟩
theorem RI.st (hR : RI L) : RI (stL L i ts) := by
  by_cases h0 : stE L i ts ≠ 0
  · rw [stL_no h0]; exact hR
  · have h0' : stE L i ts = 0 := by omega
    obtain ⟨k1, k2, k3, k4, k5⟩ := stE_0 h0'
    have hi : i.toNat = stN L := by omega
    have hil : i.toNat < L.length := by omega
    have hy0 := List.getElem?_eq_getElem hil
    rw [stL_ok h0' hy0]
    have hat : ∀ j y, (L.set i.toNat { L[i.toNat] with ts := ts })[j]? = some y → ∃ z, L[j]? = some z ∧ y.client = z.client ∧ y.req = z.req ∧ y.opl = z.opl ∧ y.ts = if j = i.toNat then ts else z.ts := by
      intro j y hy
      rw [List.getElem?_set] at hy
      by_cases e1 : i.toNat = j
      · subst e1
        rw [if_pos rfl, if_pos hil] at hy
        simp only [Option.some.injEq] at hy
        subst hy
        exact ⟨_, hy0, rfl, rfl, rfl, by rw [if_pos rfl]⟩
      · rw [if_neg e1] at hy
        exact ⟨y, hy, rfl, rfl, rfl, by rw [if_neg (fun q => e1 q.symm)]⟩
    refine ⟨fun e he => ?_, hR.uq.nm ?_, fun j y p hy hp hn => ?_⟩
    · obtain ⟨j, hj⟩ := List.getElem?_of_mem he
      obtain ⟨z, hz, q1, q2, q3, _⟩ := hat j e hj
      rw [q1, q2, q3]; exact hR.chk z (List.mem_of_getElem? hz)
    · rw [← stL_ok h0' hy0]; exact stL_nm
    · obtain ⟨y', hy', _, _, _, q1⟩ := hat _ y hy
      obtain ⟨p', hp', _, _, _, q2⟩ := hat _ p hp
      rw [q1] at hn ⊢; rw [q2]
      by_cases e1 : j + 1 = i.toNat
      · rw [if_pos e1, if_neg (by omega)]
        refine ⟨stN_at (L := L) (by omega) hp', ?_⟩
        rw [show p'.ts = lastT L from lastT_at (j := j) (by omega) (by omega) hp']; exact k5
      · rw [if_neg e1] at hn ⊢
        by_cases e2 : j = i.toNat
        · exfalso
          have h1 := hR.up j y' p' hy' hp' hn
          rw [e2, hi] at hp'
          exact h1.1 (stN_zero hp')
        · rw [if_neg e2]; exact hR.up j y' p' hy' hp' hn
end


section
variable {L : List EntT} {i c r ts n h : Int} {l : List OpT}
variable {A B : List EntT}
end

end Go.Proofs.Ytlbemlodcdgakaa
