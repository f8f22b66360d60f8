/- catenaref15: Get, Seek, Keys; catenaref05.In. Conditions: at most 80000 keys. -/
import Derived.Test.YthmljllgfigebaaTreeT
namespace Go.Proofs.Ythmljllgfigebaa
open Go.RowKit Go.Shelf Go.PlainAid
set_option linter.unusedVariables false
theorem atL_get {L : List Kv} {k : ByteArray} (h : hasL L k = true) : ∃ a, L[atL L k]? = some a ∧ a.1 = k ∧ getL L k = a.2 := by
  induction L with
  | nil => cases h
  | cons a r ih =>
    unfold hasL at h
    unfold getL
    by_cases q1 : klt k a.1 = true
    · rw [if_pos q1] at h; cases h
    · rw [if_neg q1] at h ⊢
      by_cases q2 : klt a.1 k = true
      · rw [if_pos q2] at h ⊢
        obtain ⟨b, e1, e2, e3⟩ := ih h
        have e : atL (a :: r) k = atL r k + 1 := by rw [atL, if_pos q2]
        exact ⟨b, by rw [e, List.getElem?_cons_succ]; exact e1, e2, e3⟩
      · rw [if_neg q2]
        have e : atL (a :: r) k = 0 := by rw [atL, if_neg q2]
        exact ⟨a, by rw [e]; rfl, klt_eq (by simpa using q2) (by simpa using q1), rfl⟩
theorem getL_none {L : List Kv} {k : ByteArray} (h : hasL L k = false) : getL L k = 0 := by
  induction L with
  | nil => rfl
  | cons a r ih =>
    unfold hasL at h
    unfold getL
    by_cases q1 : klt k a.1 = true
    · rw [if_pos q1]
    · rw [if_neg q1] at h ⊢
      by_cases q2 : klt a.1 k = true
      · rw [if_pos q2] at h ⊢; exact ih h
      · rw [if_neg q2] at h; cases h
theorem atL_le (L : List Kv) (k : ByteArray) : atL L k ≤ L.length := by
  induction L with
  | nil => exact Nat.le_refl _
  | cons a r ih => unfold atL; split <;> simp <;> omega
theorem hd_at (L : List Kv) (k : ByteArray) : (∀ a, L[atL L k]? = some a → hdK (wkL k L) = (a.1, true)) ∧ (atL L k = L.length → hdK (wkL k L) = (⟨#[]⟩, false)) := by
  induction L with
  | nil => exact ⟨fun a hi => by simp at hi, fun _ => rfl⟩
  | cons a r ih =>
    by_cases q : klt a.1 k = true
    · have e : atL (a :: r) k = atL r k + 1 := by rw [atL, if_pos q]
      have e2 : wkL k (a :: r) = wkL k r := by unfold wkL; rw [List.filter_cons_of_neg (by simp [q])]
      rw [e, e2]
      exact ⟨fun b hb => ih.1 b (by rw [List.getElem?_cons_succ] at hb; exact hb), fun hi => ih.2 (by simpa using hi)⟩
    · have e : atL (a :: r) k = 0 := by rw [atL, if_neg q]
      have e2 : wkL k (a :: r) = a.1 :: wkL k r := by unfold wkL; rw [List.filter_cons_of_pos (by simpa using q), List.map_cons]
      rw [e, e2]
      exact ⟨fun b hb => by simp at hb; rw [← hb]; rfl, fun hi => by simp at hi⟩
def inK (F T k : ByteArray) : Bool := !(klt k F) && !(hit T k)
def inL (F T : ByteArray) (L : List Kv) : List ByteArray := (L.filter (fun a => inK F T a.1)).map (·.1)
theorem in_cut (F T : ByteArray) {L : List Kv} (h : Srt L) : kcut T (wkL F L) = inL F T L := by
  induction L with
  | nil => rfl
  | cons a r ih =>
    obtain ⟨h1, h2⟩ := List.pairwise_cons.1 h
    have ih := ih h2
    unfold inL wkL kcut at *
    by_cases q : klt a.1 F = true
    · rw [List.filter_cons_of_neg (by simp [q]), List.filter_cons_of_neg (by simp [inK, q]), ih]
    · rw [List.filter_cons_of_pos (by simpa using q), List.map_cons, List.takeWhile_cons]
      cases hh : hit T a.1 with
      | false => rw [List.filter_cons_of_pos (by simp [inK, q, hh]), List.map_cons, ih]; rfl
      | true =>
        have hn : r.filter (fun b => inK F T b.1) = [] := List.filter_eq_nil_iff.2 (fun b hb => by
          have q1 := h1 b hb
          have e : hit T b.1 = true := by
            unfold hit at hh ⊢
            rw [Bool.and_eq_true] at hh ⊢
            refine ⟨hh.1, ?_⟩
            have q2 : klt a.1 T = false := by simpa [klt] using hh.2
            have q3 : klt b.1 T = false := by
              cases q4 : klt b.1 T with
              | false => rfl
              | true => rw [klt_tr q1 q4] at q2; cases q2
            simpa [klt] using q3
          simp [inK, e])
        rw [List.filter_cons_of_neg (by simp [inK, hh]), hn]; rfl
set_option maxRecDepth 100000
set_option maxHeartbeats 2000000
theorem rget15_any (D : Nat → Prop) (w : World) (rb : Nat) (L : List Kv) (k : ByteArray) (h : RfO D w rb L) :
    Calls Try.prog 21 #[pt rb 0, .string k] w fun e w' => e = .returned (.tuple #[.int .i64 (getL L k), .bool (hasL L k)]) ∧ Below w.heap.size w w' := by
  have HH := Lib.hid h; clear h
  go_enter Try.func21, Try.ntmps21
  go_wp2_with fail
  refine (rat_any D _ rb L k HH.out).mono ?_
  rintro e w1 ⟨rfl, hb⟩
  obtain ⟨u, B, h1, h2, h3⟩ := HH.out.gr (below_grown hb) (fun q e => nomatch e)
  have hS := SliceOf.own (enc := kvE) (sz := 2) h2 (fun _ _ => rfl)
  have c0 : w1.cell? ⟨rb, 0, none⟩ = some u := h1.cell (k := 0) rfl
  have HB := Lib.hid hb; have HS := Lib.hid hS
  obtain ⟨ao, cap, rfl, hcap, hcm, _, _⟩ := hS
  clear h1 h2 h3 hb
  cases hh : hasL L k with
  | false =>
    have hz := getL_none hh
    have HZ := Lib.hid hz; clear hz
    go_wp2
    go_ret2
    exact ⟨by rw [HZ.out, hh]; rfl, HB.out⟩
  | true =>
    obtain ⟨q, e0, e1, e2⟩ := atL_get hh
    obtain ⟨hi, e3⟩ := List.getElem?_eq_some_iff.1 e0
    obtain ⟨b, off, rfl, k0, k1⟩ := kvAt HS.out _ hi
    rw [e3, ← e2] at k1
    have hd : ((atL L k : Nat) : Int) < (L.length : Int) := by omega
    clear e0 e1 e2 e3 k0
    go_wp2
    go_ret2
    exact ⟨by rw [hh]; rfl, HB.out⟩
theorem rseek15_any (D : Nat → Prop) (w : World) (rb : Nat) (L : List Kv) (k : ByteArray) (h : RfO D w rb L) :
    Calls Try.prog 23 #[pt rb 0, .string k] w fun e w' => e = .returned (.tuple #[.string (hdK (wkL k L)).1, .bool (hdK (wkL k L)).2]) ∧ Below w.heap.size w w' := by
  have HH := Lib.hid h; clear h
  go_enter Try.func23, Try.ntmps23
  go_wp2_with fail
  refine (rat_any D _ rb L k HH.out).mono ?_
  rintro e w1 ⟨rfl, hb⟩
  obtain ⟨u, B, h1, h2, h3⟩ := HH.out.gr (below_grown hb) (fun q e => nomatch e)
  have hS := SliceOf.own (enc := kvE) (sz := 2) h2 (fun _ _ => rfl)
  have c0 : w1.cell? ⟨rb, 0, none⟩ = some u := h1.cell (k := 0) rfl
  have HB := Lib.hid hb; have HS := Lib.hid hS
  obtain ⟨ao, cap, rfl, hcap, hcm, _, _⟩ := hS
  clear h1 h2 h3 hb
  have hle := atL_le L k
  have hat := hd_at L k
  rcases Nat.lt_or_ge (atL L k) L.length with hlt | hge
  · have e1 := hat.1 _ (List.getElem?_eq_getElem hlt)
    obtain ⟨b, off, rfl, k0, k1⟩ := kvAt HS.out _ hlt
    have hd : ((atL L k : Nat) : Int) < (L.length : Int) := by omega
    have hne : (((atL L k : Nat) : Int) == (L.length : Int)) = false := by simp; omega
    have E1 := Lib.hid e1; clear e1 hat k1
    go_wp2
    go_ret2
    exact ⟨by rw [E1.out]; rfl, HB.out⟩
  · have e0 : atL L k = L.length := by omega
    have E1 := Lib.hid (hat.2 e0); clear hat
    rw [e0]
    go_wp2
    go_ret2
    exact ⟨by rw [E1.out]; rfl, HB.out⟩
theorem in05_any (k F T : ByteArray) (w : World) : Calls Try.prog 69 #[.string k, .string F, .string T] w fun e w' => e = .returned (.bool (inK F T k)) ∧ w = w' := by
  go_enter Try.func69, Try.ntmps69
  cases x1 : Op.bytesLess k.toList F.toList with
  | true =>
    have E : Hid (inK F T k = false) := Lib.hid (by unfold inK klt; rw [x1]; rfl)
    go_wp2
    go_ret
    exact ⟨by rw [E.out]; rfl, rfl⟩
  | false =>
    cases x2 : T.toList.isEmpty with
    | true =>
      have E : Hid (inK F T k = true) := Lib.hid (by unfold inK klt hit; rw [x1, x2]; rfl)
      go_wp2
      go_ret
      exact ⟨by rw [E.out]; rfl, rfl⟩
    | false =>
      cases x3 : Op.bytesLess k.toList T.toList with
      | true =>
        have E : Hid (inK F T k = true) := Lib.hid (by unfold inK klt hit; rw [x1, x2, x3]; rfl)
        go_wp2
        go_ret
        exact ⟨by rw [E.out]; rfl, rfl⟩
      | false =>
        have E : Hid (inK F T k = false) := Lib.hid (by unfold inK klt hit; rw [x1, x2, x3]; rfl)
        go_wp2
        go_ret
        exact ⟨by rw [E.out]; rfl, rfl⟩
end Go.Proofs.Ythmljllgfigebaa
