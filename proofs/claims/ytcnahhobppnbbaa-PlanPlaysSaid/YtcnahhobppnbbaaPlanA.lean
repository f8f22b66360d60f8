/- Package plan, pure parts: the members of the next configuration, who is trusted, the floor. Conditions: none. -/
import Derived.Test.YtcnahhobppnbbaaConfD
import Derived.Test.YtcnahhobppnbbaaSortI
namespace Go.Proofs.Ytcnahhobppnbbaa
open Go.RowKit Go.PlainAid

/-- Is a number in a list? -/
def inL (l : List Int) (n : Int) : Bool := l.any fun x => x == n
/-- How often a number is told. -/
def cntL (l : List Int) (n : Int) : Int := (l.countP (fun x => x == n) : Nat)
theorem inL_mem {l : List Int} {n : Int} : inL l n = true ↔ n ∈ l := by
  unfold inL; rw [List.any_eq_true]
  exact ⟨fun ⟨x, hx, e⟩ => by have := eq_of_beq e; subst this; exact hx, fun h => ⟨n, h, by simp⟩⟩
theorem cntL_nn (l : List Int) (n : Int) : 0 ≤ cntL l n ∧ cntL l n ≤ l.length := by
  have := List.countP_le_length (p := fun x => x == n) (l := l); unfold cntL; omega
theorem cnt_in (l : List Int) (n : Int) : decide (cntL l n > 0) = inL l n := by
  unfold cntL inL
  rw [Bool.eq_iff_iff, decide_eq_true_eq, List.any_eq_true]
  have h := List.countP_pos_iff (p := fun x => x == n) (l := l)
  constructor
  · intro h1; exact h.1 (by omega)
  · intro h1; have := h.2 h1; omega
theorem cnt_0 (l : List Int) (n : Int) : (cntL l n == 0) = !(inL l n) := by
  rw [← cnt_in]
  have := cntL_nn l n
  rw [Bool.eq_iff_iff]; simp; omega
theorem cntL_nil : (fun _ : Int => (0 : Int)) = cntL [] := by funext n; simp [cntL]
theorem takeP_at {α : Type} {l : List α} {i : Nat} {y : α} (h : l[i]? = some y) : l.take (i + 1) = l.take i ++ [y] := by rw [List.take_add_one, h]; rfl
theorem dropP_at {α : Type} {l : List α} {i : Nat} {y : α} (h : l[i]? = some y) : l.drop i = y :: l.drop (i + 1) := by
  obtain ⟨hi, rfl⟩ := List.getElem?_eq_some_iff.1 h
  exact List.drop_eq_getElem_cons hi
theorem cntL_step {l : List Int} {i : Nat} {y : Int} (h : l[i]? = some y) : (fun b => if b = y then cntL (l.take i) y + 1 else cntL (l.take i) b) = cntL (l.take (i + 1)) := by
  funext b
  rw [takeP_at h]; unfold cntL; rw [List.countP_append]
  by_cases e : b = y
  · subst e; rw [if_pos rfl]; simp
  · rw [if_neg e]; simp [Ne.symm e]
theorem inL_at {l : List Int} {i : Nat} {n y : Int} (hb : ∀ j, j < i → ∀ z, l[j]? = some z → z ≠ n) (h : l[i]? = some y) (e : y = n) : true = inL l n := by
  subst e; exact (inL_mem.2 (List.mem_of_getElem? h)).symm
theorem inL_end {l : List Int} {i : Nat} {n : Int} (hb : ∀ j, j < i → ∀ z, l[j]? = some z → z ≠ n) (hi : l.length ≤ i) : false = inL l n := by
  symm; rw [Bool.eq_false_iff]
  intro h
  obtain ⟨j, hj, e⟩ := List.getElem_of_mem (inL_mem.1 h)
  exact hb j (by omega) _ (List.getElem?_eq_getElem hj) e
theorem in_next {l : List Int} {i : Nat} {n y : Int} (hb : ∀ j, j < i → ∀ z, l[j]? = some z → z ≠ n) (h : l[i]? = some y) (e : ¬ y = n) : ∀ j, j < i + 1 → ∀ z, l[j]? = some z → z ≠ n := by
  intro j hj z hz
  by_cases q : j = i
  · subst q; rw [h] at hz; cases hz; exact e
  · exact hb j (by omega) z hz
/-- Has a member of these that number? -/
def hasM (l : List MemT) (n : Int) : Bool := l.any fun o => o.1 == n
theorem hasM_at {l : List MemT} {i : Nat} {n : Int} {y : MemT} (h : l[i]? = some y) (e : y.1 = n) : true = hasM l n := by
  symm; unfold hasM; rw [List.any_eq_true]; exact ⟨y, List.mem_of_getElem? h, by simpa using e⟩
theorem hasM_end {l : List MemT} {i : Nat} {n : Int} (hb : ∀ j, j < i → ∀ z, l[j]? = some z → z.1 ≠ n) (hi : l.length ≤ i) : false = hasM l n := by
  symm; rw [Bool.eq_false_iff]; unfold hasM; rw [ne_eq, List.any_eq_true]
  rintro ⟨y, hy, e⟩
  obtain ⟨j, hj, e2⟩ := List.getElem_of_mem hy
  exact hb j (by omega) _ (List.getElem?_eq_getElem hj) (by rw [e2]; simpa using e)
theorem has_next {l : List MemT} {i : Nat} {n : Int} {y : MemT} (hb : ∀ j, j < i → ∀ z, l[j]? = some z → z.1 ≠ n) (h : l[i]? = some y) (e : ¬ y.1 = n) : ∀ j, j < i + 1 → ∀ z, l[j]? = some z → z.1 ≠ n := by
  intro j hj z hz
  by_cases q : j = i
  · subst q; rw [h] at hz; cases hz; exact e
  · exact hb j (by omega) z hz
/-- Those that stay and are trusted; that stay and are not. -/
def selA (lg gn : List Int) (m : MemT) : Bool := !(inL gn m.1) && inL lg m.1
def selB (lg gn : List Int) (m : MemT) : Bool := !(inL gn m.1) && !(inL lg m.1)
/-- May someone be a member at all? -/
def mayM (m : MemT) : Bool := decide (chkC 1 [m] = 0)
def joinF (acc : List MemT) (m : MemT) : List MemT := if decide (acc.length < 4) && mayM m && !(hasM acc m.1) then acc ++ [m] else acc
def joinL (acc js : List MemT) : List MemT := js.foldl joinF acc
def keepL (ms : List MemT) (lg gn : List Int) : List MemT := ms.filter (selA lg gn)
def restL (ms : List MemT) (lg gn : List Int) : List MemT := ms.filter (selB lg gn)
def stayL (ms : List MemT) (lg gn : List Int) : List MemT := keepL ms lg gn ++ restL ms lg gn
def planL (ms : List MemT) (lg gn : List Int) (js : List MemT) : List MemT := joinL (stayL ms lg gn) js
theorem filt_yes {α : Type} {p : α → Bool} {l : List α} {i : Nat} {y : α} (h : l[i]? = some y) (hp : p y = true) : (l.take i).filter p ++ [y] = (l.take (i + 1)).filter p := by
  rw [takeP_at h, List.filter_append]; simp [hp]
theorem filt_no {α : Type} {p : α → Bool} {l : List α} {i : Nat} {y : α} (h : l[i]? = some y) (hp : p y = false) : (l.take i).filter p = (l.take (i + 1)).filter p := by
  rw [takeP_at h, List.filter_append]; simp [hp]
theorem join_step {acc l : List MemT} {i : Nat} {y : MemT} (h : l[i]? = some y) : joinL acc (l.take (i + 1)) = joinF (joinL acc (l.take i)) y := by
  rw [takeP_at h]; unfold joinL; rw [List.foldl_append]; rfl
theorem joinF_yes {acc : List MemT} {m : MemT} (h1 : acc.length < 4) (h2 : mayM m = true) (h3 : hasM acc m.1 = false) : acc ++ [m] = joinF acc m := by
  unfold joinF; rw [h2, h3, decide_eq_true h1]; rfl
theorem joinF_1 {acc : List MemT} {m : MemT} (h1 : ¬ acc.length < 4) : acc = joinF acc m := by unfold joinF; rw [decide_eq_false h1]; rfl
theorem joinF_2 {acc : List MemT} {m : MemT} (h2 : mayM m = false) : acc = joinF acc m := by unfold joinF; rw [h2]; simp
theorem joinF_3 {acc : List MemT} {m : MemT} (h3 : hasM acc m.1 = true) : acc = joinF acc m := by unfold joinF; rw [h3]; simp
theorem join_full {acc : List MemT} (h : 4 ≤ acc.length) : ∀ js, joinL acc js = acc := by
  intro js
  induction js generalizing acc with
  | nil => rfl
  | cons m r ih =>
    show joinL (joinF acc m) r = acc
    rw [← joinF_1 (by omega)]; exact ih h
theorem join_end {acc l : List MemT} {i : Nat} (h : l.length ≤ i ∨ 4 ≤ (joinL acc (l.take i)).length) : joinL acc (l.take i) = joinL acc l := by
  rcases h with h | h
  · rw [List.take_of_length_le h]
  · have e : joinL acc l = joinL (joinL acc (l.take i)) (l.drop i) := by
      unfold joinL; rw [← List.foldl_append, List.take_append_drop]
    rw [e, join_full h]
theorem joinF_len (acc : List MemT) (m : MemT) : (joinF acc m).length ≤ acc.length + 1 := by unfold joinF; split <;> simp
theorem stay_le (ms : List MemT) (lg gn : List Int) : (keepL ms lg gn).length + (restL ms lg gn).length ≤ ms.length := by
  unfold keepL restL
  induction ms with
  | nil => simp
  | cons m r ih =>
    have e1 : (selA lg gn m && selB lg gn m) = false := by unfold selA selB; cases inL gn m.1 <;> cases inL lg m.1 <;> rfl
    rw [List.filter_cons, List.filter_cons, List.length_cons]
    cases h : selA lg gn m <;> cases k : selB lg gn m <;> rw [h, k] at e1 <;> simp <;> first | omega | (simp at e1)
theorem join_le {acc : List MemT} (h : acc.length ≤ 4) : ∀ js, (joinL acc js).length ≤ 4 := by
  intro js
  induction js generalizing acc with
  | nil => exact h
  | cons m r ih =>
    show (joinL (joinF acc m) r).length ≤ 4
    refine ih ?_
    by_cases h4 : acc.length < 4
    · have := joinF_len acc m; omega
    · rw [← joinF_1 h4]; exact h
theorem join_pre : ∀ (js acc : List MemT), ∃ r, joinL acc js = acc ++ r ∧ ∀ m ∈ r, m ∈ js ∧ mayM m = true := by
  intro js
  induction js with
  | nil => intro acc; exact ⟨[], by simp [joinL], by simp⟩
  | cons m r ih =>
    intro acc
    show ∃ r', joinL (joinF acc m) r = acc ++ r' ∧ _
    obtain ⟨r', h, k⟩ := ih (joinF acc m)
    by_cases hc : (decide (acc.length < 4) && mayM m && !(hasM acc m.1)) = true
    · have e : joinF acc m = acc ++ [m] := by unfold joinF; rw [if_pos hc]
      rw [e] at h
      simp only [Bool.and_eq_true] at hc
      refine ⟨m :: r', by rw [e, h]; simp, fun z hz => ?_⟩
      rcases List.mem_cons.1 hz with rfl | hz
      · exact ⟨by simp, hc.1.2⟩
      · exact ⟨List.mem_cons_of_mem _ (k z hz).1, (k z hz).2⟩
    · have e : joinF acc m = acc := by unfold joinF; rw [if_neg hc]
      rw [e] at h ⊢
      exact ⟨r', h, fun z hz => ⟨List.mem_cons_of_mem _ (k z hz).1, (k z hz).2⟩⟩
theorem join_nodup {js : List MemT} : ∀ {acc : List MemT}, (acc.map (·.1)).Nodup → ((joinL acc js).map (·.1)).Nodup := by
  induction js with
  | nil => intro acc h; exact h
  | cons m r ih =>
    intro acc h
    show ((joinL (joinF acc m) r).map (·.1)).Nodup
    refine ih ?_
    by_cases hc : (decide (acc.length < 4) && mayM m && !(hasM acc m.1)) = true
    · have e : joinF acc m = acc ++ [m] := by unfold joinF; rw [if_pos hc]
      simp only [Bool.and_eq_true, Bool.not_eq_true'] at hc
      have hh := hc.2
      rw [e, List.map_append, List.nodup_append]
      refine ⟨h, by simp, fun a ha b hb => ?_⟩
      simp at hb; subst hb
      intro e2; subst e2
      obtain ⟨o, ho, e3⟩ := List.mem_map.1 ha
      unfold hasM at hh; rw [List.any_eq_false] at hh
      exact hh o ho (by simpa using e3)
    · have e : joinF acc m = acc := by unfold joinF; rw [if_neg hc]
      rw [e]; exact h
theorem fnd_has (l : List MemT) (n : Int) : 0 ≤ fnd (fun o => o.1 == n) l ↔ hasM l n = true := by
  have key : ∀ (l : List MemT) (i : Nat), 0 ≤ fndF (fun o => o.1 == n) l i ↔ hasM l n = true := by
    intro l
    induction l with
    | nil => intro i; simp [fndF, hasM]
    | cons m r ih =>
      intro i
      unfold fndF
      by_cases h : (m.1 == n) = true
      · rw [if_pos h]; simp [hasM, h]
      · rw [if_neg h, ih]; simp only [hasM, List.any_cons, Bool.or_eq_true]; simp [h]
  exact key l 0
theorem chkM_iff : ∀ (r pre : List MemT), chkM pre r = 0 ↔ (∀ m ∈ r, ¬ badId m ∧ ¬ badSer m) ∧ (r.map (·.1)).Nodup ∧ ∀ m ∈ r, ∀ o ∈ pre, o.1 ≠ m.1
  | [], pre => by simp [chkM]
  | m :: r, pre => by
    unfold chkM
    by_cases h1 : badId m
    · rw [if_pos h1]; simp [h1]
    rw [if_neg h1]
    by_cases h2 : badSer m
    · rw [if_pos h2]; simp [h2]
    rw [if_neg h2]
    by_cases h3 : 0 ≤ fnd (fun o => o.1 == m.1) pre
    · rw [if_pos h3]
      have hh := (fnd_has pre m.1).1 h3
      unfold hasM at hh; rw [List.any_eq_true] at hh
      obtain ⟨o, ho, e⟩ := hh
      constructor
      · intro h; omega
      · rintro ⟨_, _, h⟩; exact absurd (by simpa using e) (h m (by simp) o ho)
    rw [if_neg h3, chkM_iff r (pre ++ [m])]
    have hno : ∀ o ∈ pre, o.1 ≠ m.1 := by
      intro o ho e
      exact h3 ((fnd_has pre m.1).2 (by unfold hasM; rw [List.any_eq_true]; exact ⟨o, ho, by simpa using e⟩))
    constructor
    · rintro ⟨a, b, c⟩
      refine ⟨fun z hz => ?_, ?_, fun z hz o ho => ?_⟩
      · rcases List.mem_cons.1 hz with rfl | hz
        · exact ⟨h1, h2⟩
        · exact a z hz
      · rw [List.map_cons, List.nodup_cons]
        refine ⟨fun hm => ?_, b⟩
        obtain ⟨z, hz, e⟩ := List.mem_map.1 hm
        exact c z hz m (by simp) e.symm
      · rcases List.mem_cons.1 hz with rfl | hz
        · exact hno o ho
        · exact c z hz o (by simp [ho])
    · rintro ⟨a, b, c⟩
      rw [List.map_cons, List.nodup_cons] at b
      refine ⟨fun z hz => a z (by simp [hz]), b.2, fun z hz o ho => ?_⟩
      rcases List.mem_append.1 ho with ho | ho
      · exact c z (by simp [hz]) o ho
      · simp at ho; subst ho
        intro e; exact b.1 (List.mem_map.2 ⟨z, hz, e.symm⟩)
theorem chkC_iff {ep : Int} {ms : List MemT} : chkC ep ms = 0 ↔ (1 ≤ ep ∧ ep ≤ 1073741824) ∧ (0 < ms.length ∧ ms.length ≤ 4) ∧ (∀ m ∈ ms, ¬ badId m ∧ ¬ badSer m) ∧ (ms.map (·.1)).Nodup := by
  unfold chkC
  by_cases h1 : ep < 1 ∨ 1073741824 < ep
  · rw [if_pos h1]; constructor <;> intro h <;> omega
  rw [if_neg h1]
  by_cases h2 : ms.length = 0
  · rw [if_pos h2]; constructor <;> intro h <;> omega
  rw [if_neg h2]
  by_cases h3 : 4 < ms.length
  · rw [if_pos h3]; constructor <;> intro h <;> omega
  rw [if_neg h3, chkM_iff]
  constructor
  · rintro ⟨a, b, _⟩; exact ⟨by omega, by omega, a, b⟩
  · rintro ⟨_, _, a, b⟩; exact ⟨a, b, by simp⟩
theorem may_iff {m : MemT} : mayM m = true ↔ ¬ badId m ∧ ¬ badSer m := by
  unfold mayM; rw [decide_eq_true_eq, chkC_iff]
  constructor
  · rintro ⟨_, _, h, _⟩; exact h m (by simp)
  · intro h; exact ⟨by omega, by simp, by simpa using h, by simp⟩
/-- The floor that comes behind. -/
def floorP (fl last : Int) : Int := if last = 18446744073709551615 then 18446744073709551615 else if fl < last + 1 then last + 1 else fl
/-- Who is trusted, as the document asks: the numbers one behind the other. -/
def trustL (l : List MemT) : List Int := [0, 1, 2, 3].flatMap fun n => (l.filter fun o => o.1 == n).map fun o => o.1
theorem trust_perm : ∀ {l : List MemT}, (∀ m ∈ l, ¬ badId m) → (trustL l).Perm (l.map fun o => o.1)
  | [], _ => by simp [trustL]
  | m :: r, h => by
    have ih := trust_perm (l := r) (fun z hz => h z (by simp [hz]))
    have hm := h m (by simp)
    unfold badId at hm
    have h4 : m.1 = 0 ∨ m.1 = 1 ∨ m.1 = 2 ∨ m.1 = 3 := by omega
    refine List.Perm.trans ?_ (ih.cons m.1)
    obtain ⟨a, ha⟩ : ∃ a : Int → List Int, ∀ n, (r.filter fun o => o.1 == n).map (fun o => o.1) = a n := ⟨_, fun _ => rfl⟩
    have e : ∀ n, ((m :: r).filter fun o => o.1 == n).map (fun o => o.1) = (if m.1 = n then [m.1] else []) ++ a n := by
      intro n; rw [List.filter_cons]
      by_cases q : m.1 = n
      · rw [if_pos q, if_pos (by simpa using q), List.map_cons, ha]; rfl
      · rw [if_neg q, if_neg (by simpa using q), ha]; rfl
    simp only [trustL, List.flatMap_cons, List.flatMap_nil, e, ha, List.append_nil]
    rcases h4 with q | q | q | q <;> rw [q] <;> simp <;> grind
theorem trust_up (l : List MemT) : (trustL l).Pairwise (· ≤ ·) := by
  have key : ∀ n : Int, ∀ x ∈ (l.filter fun o => o.1 == n).map (fun o => o.1), x = n := by
    intro n x hx
    obtain ⟨o, ho, e⟩ := List.mem_map.1 hx
    have := (List.mem_filter.1 ho).2
    rw [← e]; simpa using this
  have one : ∀ n : Int, ((l.filter fun o => o.1 == n).map (fun o => o.1)).Pairwise (· ≤ ·) := by
    intro n
    refine List.pairwise_of_forall_mem_list ?_
    intro a ha b hb; rw [key n a ha, key n b hb]; exact Int.le_refl _
  simp only [trustL, List.flatMap_cons, List.flatMap_nil, List.append_nil]
  refine List.pairwise_append.2 ⟨one 0, List.pairwise_append.2 ⟨one 1, List.pairwise_append.2 ⟨one 2, one 3, ?_⟩, ?_⟩, ?_⟩
  · intro a ha b hb; rw [key 2 a ha, key 3 b hb]; decide
  · intro a ha b hb
    rw [key 1 a ha]
    rcases List.mem_append.1 hb with hb | hb
    · rw [key 2 b hb]; decide
    · rw [key 3 b hb]; decide
  · intro a ha b hb
    rw [key 0 a ha]
    rcases List.mem_append.1 hb with hb | hb
    · rw [key 1 b hb]; decide
    rcases List.mem_append.1 hb with hb | hb
    · rw [key 2 b hb]; decide
    · rw [key 3 b hb]; decide
theorem trust_srt {l : List MemT} (h : ∀ m ∈ l, ¬ badId m) : srt (l.map fun o => o.1) = trustL l := srt_eq (trust_perm h) (trust_up l)
theorem trust_len {l : List MemT} (h : ∀ m ∈ l, ¬ badId m) : (trustL l).length = l.length := by rw [(trust_perm h).length_eq]; simp
theorem trust_mem {l : List MemT} (h : ∀ m ∈ l, ¬ badId m) {x : Int} : x ∈ trustL l ↔ ∃ m ∈ l, m.1 = x := by
  rw [(trust_perm h).mem_iff]; simp [List.mem_map]
/-- What Next tells. -/
def nextE (ep : Int) (ms : List MemT) (lg gn : List Int) (js : List MemT) : Int :=
  if chkC ep ms ≠ 0 then chkC ep ms else if (keepL ms lg gn).length = 0 then 7 else if planL ms lg gn js = ms then 20 else if ep = 1073741824 then 5 else 0
def nextM (ep : Int) (ms : List MemT) (lg gn : List Int) (js : List MemT) : List MemT := if nextE ep ms lg gn js = 0 then planL ms lg gn js else []
def nextEp (ep : Int) (ms : List MemT) (lg gn : List Int) (js : List MemT) : Int := if nextE ep ms lg gn js = 0 then ep + 1 else 0
def nextFl (ep : Int) (ms : List MemT) (fl : Int) (lg gn : List Int) (js : List MemT) (last : Int) : Int := if nextE ep ms lg gn js = 0 then floorP fl last else 0
def nextT (ep : Int) (ms : List MemT) (lg gn : List Int) (js : List MemT) : List Int := if nextE ep ms lg gn js = 0 then trustL (keepL ms lg gn) else []
theorem nextE_1 {ep : Int} {ms : List MemT} {lg gn : List Int} {js : List MemT} (h : ¬ chkC ep ms = 0) : chkC ep ms = nextE ep ms lg gn js := by unfold nextE; rw [if_pos h]
theorem nextE_2 {ep : Int} {ms : List MemT} {lg gn : List Int} {js : List MemT} (h : chkC ep ms = 0) (h2 : (keepL ms lg gn).length = 0) : 7 = nextE ep ms lg gn js := by unfold nextE; rw [if_neg (by omega), if_pos h2]
theorem nextE_3 {ep : Int} {ms : List MemT} {lg gn : List Int} {js : List MemT} (h : chkC ep ms = 0) (h2 : ¬ (keepL ms lg gn).length = 0) (h3 : planL ms lg gn js = ms) : 20 = nextE ep ms lg gn js := by unfold nextE; rw [if_neg (by omega), if_neg h2, if_pos h3]
theorem nextE_4 {ep : Int} {ms : List MemT} {lg gn : List Int} {js : List MemT} (h : chkC ep ms = 0) (h2 : ¬ (keepL ms lg gn).length = 0) (h3 : ¬ planL ms lg gn js = ms) (h4 : ep = 1073741824) : 5 = nextE ep ms lg gn js := by unfold nextE; rw [if_neg (by omega), if_neg h2, if_neg h3, if_pos h4]
theorem nextE_0 {ep : Int} {ms : List MemT} {lg gn : List Int} {js : List MemT} (h : chkC ep ms = 0) (h2 : ¬ (keepL ms lg gn).length = 0) (h3 : ¬ planL ms lg gn js = ms) (h4 : ¬ ep = 1073741824) : 0 = nextE ep ms lg gn js := by unfold nextE; rw [if_neg (by omega), if_neg h2, if_neg h3, if_neg h4]
theorem next_err {ep : Int} {ms : List MemT} {fl : Int} {lg gn : List Int} {js : List MemT} {last : Int} (h : ¬ nextE ep ms lg gn js = 0) : nextM ep ms lg gn js = [] ∧ nextEp ep ms lg gn js = 0 ∧ nextFl ep ms fl lg gn js last = 0 ∧ nextT ep ms lg gn js = [] := by
  unfold nextM nextEp nextFl nextT; rw [if_neg h, if_neg h, if_neg h, if_neg h]; simp
theorem next_ok {ep : Int} {ms : List MemT} {fl : Int} {lg gn : List Int} {js : List MemT} {last : Int} (h : 0 = nextE ep ms lg gn js) : nextM ep ms lg gn js = planL ms lg gn js ∧ nextEp ep ms lg gn js = ep + 1 ∧ nextFl ep ms fl lg gn js last = floorP fl last ∧ nextT ep ms lg gn js = trustL (keepL ms lg gn) := by
  unfold nextM nextEp nextFl nextT; rw [if_pos h.symm, if_pos h.symm, if_pos h.symm, if_pos h.symm]; simp
theorem nextE_of0 {ep : Int} {ms : List MemT} {lg gn : List Int} {js : List MemT} (h : nextE ep ms lg gn js = 0) : chkC ep ms = 0 ∧ ¬ (keepL ms lg gn).length = 0 ∧ ¬ planL ms lg gn js = ms ∧ ¬ ep = 1073741824 := by
  unfold nextE at h
  by_cases h1 : chkC ep ms ≠ 0
  · rw [if_pos h1] at h; exact absurd h h1
  rw [if_neg h1] at h
  by_cases h2 : (keepL ms lg gn).length = 0
  · rw [if_pos h2] at h; omega
  rw [if_neg h2] at h
  by_cases h3 : planL ms lg gn js = ms
  · rw [if_pos h3] at h; omega
  rw [if_neg h3] at h
  by_cases h4 : ep = 1073741824
  · rw [if_pos h4] at h; omega
  exact ⟨by omega, h2, h3, h4⟩
end Go.Proofs.Ytcnahhobppnbbaa
