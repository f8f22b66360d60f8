/- Slices of texts that came in. Conditions: none. -/
import Derived.Test.YtfjhlckklgeokaaSl
import Derived.SliceStrings
import Derived.SizedLaws
namespace Go.Proofs.Ytfjhlckklgeokaa
open Go.RowKit Go.ChangeShapes Go.WideShapes

/-- One text a cell. -/
def strE (s : ByteArray) : List Value := [.string s]
theorem weights_all_mem {H : Type} {P : Program} {e : TypeId} : ∀ {D : List (DataW H)} {d : DataW H}, d ∈ D → ∀ n ∈ d.weights P e, n ∈ DataW.weightsAll P e D
  | [], _, h, _, _ => absurd h (by simp)
  | x :: D, d, h, n, hn => by
    unfold DataW.weightsAll
    rcases List.mem_cons.1 h with rfl | h
    · exact List.mem_append_left _ hn
    · exact List.mem_append_right _ (weights_all_mem h n hn)
theorem weights_le {H : Type} {P : Program} {ts : List TypeId} {ds : List (DataW H)} (h : (DataW.weightsEach P ts ds).all (· ≤ reachBytes) = true) {j : Nat} {t : TypeId} {d : DataW H} (ht : ts[j]? = some t) (hd : ds[j]? = some d) : ∀ n ∈ d.weights P t, n ≤ reachBytes := fun n hn => by
  have := List.all_eq_true.1 h _ (DataW.weights_mem_each ht hd n hn)
  simpa using this
theorem SliceOf.mk' {α : Type} {enc : α → List Value} {sz : Nat} {w : World} {b off cap : Nat} {l : List α} (hc : l.length ≤ cap) (hm : cap ≤ 9223372036854775807) (h : ∀ j (hj : j < l.length), w.rangeAt b (off + j * sz) (enc l[j])) : SliceOf enc sz w (.slice (some ⟨b, off, none⟩) l.length cap) l :=
  ⟨_, cap, rfl, hc, hm, fun h => (by cases h), fun j hj => ⟨b, off, rfl, h j hj⟩⟩
theorem open_strs {H : Type} {enc : TypeId × Value → H} {P : Program} {w : World} {base : Nat} {spare : Nat → Bool} {held : Bool} {t e : TypeId} {fuel : Nat} {v : Value} {d : DataW H} {ps : List MemPlace}
    (ht : P.underlying t = some (.slice e)) (he : P.underlying e = some .string) (hc : P.cellsOf e = 1) (hby : P.bytesOf e = 16)
    (hsz : ∀ n ∈ d.weights P t, n ≤ reachBytes) (h : DataW.trod enc P w base spare held fuel t [v] = some (d, ps)) :
    ∃ l : List ByteArray, SliceOf strE 1 w v l ∧ l.length ≤ 8796093022208 ∧ ∀ s ∈ l, s.size ≤ 140737488351232 := by
  rcases open_strings ht he hc h with ⟨hcs, _⟩ | ⟨a, len, cap, ss, hcs, _, hl, hm, hss, hx, hcell, _⟩
  · obtain rfl : v = .slice none 0 0 := by simpa using hcs
    exact ⟨[], SliceOf.nil _ _ _, by simp, by simp⟩
  · obtain rfl : v = .slice (some a) len cap := by simpa using hcs
    simp only [Prod.mk.injEq] at hx
    obtain ⟨rfl, _⟩ := hx
    have hlen : len ≤ ss.length := by rw [hss]; split <;> omega
    have htl : (ss.take len).length = len := by rw [List.length_take]; omega
    have hw : ∀ n, n = ((strs (ss.take len) : List (DataW H)).length + (strs (ss.drop len) : List (DataW H)).length) * P.bytesOf e ∨ (n ∈ DataW.weightsAll P e (strs (ss.take len) : List (DataW H))) → n ≤ reachBytes := fun n hn => hsz n (by
      unfold DataW.weights
      rw [ht]
      simp only [List.mem_cons, List.mem_append]
      rcases hn with hn | hn
      · exact Or.inl hn
      · exact Or.inr (Or.inl hn))
    refine ⟨ss.take len, ?_, ?_, fun s hs => ?_⟩
    · obtain ⟨b, off, spot⟩ := a
      by_cases h0 : len = 0
      · subst h0
        refine ⟨some ⟨b, off, spot⟩, cap, by rw [List.take_zero]; rfl, by rw [List.take_zero]; exact Nat.zero_le _, by unfold maxLen at hm; omega, fun h => (by cases h), fun j hj => absurd hj (by simp)⟩
      · have hspot : spot = none := by
          have hc0 := hcell 0 (by omega)
          simpa [Addr.add] using World.cell?_spot hc0
        subst hspot
        have := SliceOf.mk' (enc := strE) (sz := 1) (w := w) (b := b) (off := off) (cap := cap) (l := ss.take len) (by omega) (by unfold maxLen at hm; omega) (fun j hj i u hu => by
          have hj' : j < len := by omega
          have hcj := hcell j (by omega)
          rw [Addr.add_lit] at hcj
          match i, hu with
          | 0, hu =>
            simp only [strE, List.getElem?_cons_zero, Option.some.injEq] at hu
            subst hu
            rw [Nat.mul_one, Nat.add_zero, hcj]
            simp [List.getD, List.getElem?_eq_getElem (show j < ss.length by omega)])
        rw [htl] at this
        exact this
    · have := hw _ (Or.inl rfl)
      simp only [strs, List.length_map, List.length_take, List.length_drop, hby, reachBytes] at this
      rw [htl]; omega
    · have := hw s.size (Or.inr (weights_all_mem (d := .lit (.string s.data.toList)) (by simp only [strs]; exact List.mem_map.2 ⟨s, hs, rfl⟩) _ (show s.size ∈ [s.data.toList.length] by rw [List.mem_singleton]; simp)))
      simpa [reachBytes] using this
end Go.Proofs.Ytfjhlckklgeokaa
