/- Package ops: what awake tries. Conditions: none. -/
import Derived.Test.YteioaaegooebpaaOpsI
namespace Go.Proofs.Yteioaaegooebpaa
open Go.RowKit Go.PlainAid
set_option linter.unusedVariables false

open Go.Sort Go.Shelf Go.Lib

theorem SetG.uniq {V : Type} {key : V → ByteArray} {g : ByteArray → Option V} : ∀ {a b : List V}, SetG key g a → SetG key g b → a = b := by
  intro a b ha hb
  have hab : ∀ y, y ∈ a ↔ y ∈ b := fun y => (ha.2 y).trans (hb.2 y).symm
  have key2 : ∀ (a b : List V), a.Pairwise (fun x y => kB (key x) < kB (key y)) → b.Pairwise (fun x y => kB (key x) < kB (key y)) → (∀ y, y ∈ a ↔ y ∈ b) → a = b := by
    intro a
    induction a with
    | nil =>
      intro b _ _ h
      cases b with
      | nil => rfl
      | cons y b => exact absurd ((h y).2 (by simp)) (by simp)
    | cons x a ih =>
      intro b h1 h2 h
      cases b with
      | nil => exact absurd ((h x).1 (by simp)) (by simp)
      | cons y b =>
        rw [List.pairwise_cons] at h1 h2
        have hxy : x = y := by
          rcases List.mem_cons.1 ((h x).1 (by simp)) with e | hx
          · exact e
          · rcases List.mem_cons.1 ((h y).2 (by simp)) with e | hy
            · exact e.symm
            · exact absurd (List.lt_trans (h1.1 y hy) (h2.1 x hx)) (List.lt_irrefl _)
        subst hxy
        rw [ih b h1.2 h2.2 (fun z => ?_)]
        have hz := h z
        simp only [List.mem_cons] at hz
        constructor
        · intro hm
          rcases hz.1 (.inr hm) with e | k
          · subst e; exact absurd (h1.1 z hm) (List.lt_irrefl _)
          · exact k
        · intro hm
          rcases hz.2 (.inr hm) with e | k
          · subst e; exact absurd (h2.1 z hm) (List.lt_irrefl _)
          · exact k
  exact key2 a b ha.1 hb.1 hab
abbrev sA : ByteArray := ⟨#[97]⟩
abbrev sB : ByteArray := ⟨#[98]⟩
theorem awake_set : SetG (fun y : ValT => y.1) (ovG [(⟨#[97]⟩, ⟨#[49]⟩)] [(⟨#[97]⟩, ⟨#[]⟩, true), (⟨#[98]⟩, ⟨#[50]⟩, false)]) [(⟨#[98]⟩, ⟨#[50]⟩)] := by
  refine ⟨by simp, fun y => ?_⟩
  have hg : ∀ k, ovG [(⟨#[97]⟩, ⟨#[49]⟩)] [(⟨#[97]⟩, ⟨#[]⟩, true), (⟨#[98]⟩, ⟨#[50]⟩, false)] k = if k = ⟨#[98]⟩ then some (⟨#[98]⟩, ⟨#[50]⟩) else if k = ⟨#[97]⟩ then none else none := fun k => by
    unfold ovG pairG
    simp only [List.foldl_cons, List.foldl_nil, ovF, pairF, if_true, Bool.false_eq_true, if_false]
    by_cases e1 : k = ⟨#[98]⟩
    · rw [if_pos e1, if_pos e1]
    · rw [if_neg e1, if_neg e1]
      by_cases e2 : k = ⟨#[97]⟩
      · rw [if_pos e2, if_pos e2]
      · rw [if_neg e2, if_neg e2, if_neg e2]
  constructor
  · intro h
    have : y = (⟨#[98]⟩, ⟨#[50]⟩) := by simpa using h
    subst this
    exact ⟨⟨#[98]⟩, by rw [hg, if_pos rfl]⟩
  · rintro ⟨k, h⟩
    rw [hg] at h
    by_cases e1 : k = ⟨#[98]⟩
    · rw [if_pos e1] at h; cases h; simp
    · rw [if_neg e1] at h
      split at h <;> cases h
theorem awake_put : putB 0 1 [(⟨#[97]⟩, ⟨#[98]⟩, false)] = ⟨#[0, 1, 1, 1, 97, 0, 1, 98]⟩ ∧ chkB 0 1 [(⟨#[97]⟩, ⟨#[98]⟩, false)] = 0 := by
  have h : chkB 0 1 [(⟨#[97]⟩, ⟨#[98]⟩, false)] = 0 := by decide
  exact ⟨by rw [putB_ok h]; decide, h⟩

end Go.Proofs.Yteioaaegooebpaa
