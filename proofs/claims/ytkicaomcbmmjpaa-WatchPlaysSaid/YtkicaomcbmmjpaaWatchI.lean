/- catenaref24: heard, tick. Conditions: none. -/
import Derived.Test.YtkicaomcbmmjpaaWatchH
namespace Go.Proofs.Ytkicaomcbmmjpaa
open Go.RowKit Go.PlainAid

theorem RMade.congr {w : World} {b : Nat} {f g : Nat → Int} {k : Int} (h : RMade w b f k) (hg : ∀ i, i < 4 → f i = g i) : RMade w b g k :=
  ⟨fun i hi => by rw [← hg i hi]; exact h.1 i hi, h.2⟩
theorem RMade.set {w : World} {b : Nat} {f : Nat → Int} {k : Int} (h : RMade w b f k) {i : Nat} (hi : i < 4) (y : Int) : RMade (w.setCell ⟨b, i, none⟩ (.int .i64 y)) b (fun j => if j = i then y else f j) k := by
  obtain ⟨h1, h2, h3⟩ := h
  refine ⟨fun j hj => ?_, ?_, ?_⟩
  · refine ⟨?_, ?_⟩
    · by_cases hji : j = i
      · subst hji
        rw [World.cell?_setCell_same _ _ _ (h1 j hi).1]; simp
      · rw [World.cell?_setCell_other _ _ _ _ (by first | (simp; done) | (simp; omega))]
        show _ = some (Value.int .i64 (if j = i then y else f j))
        rw [if_neg hji]; exact (h1 j hj).1
    · rw [World.frozen?_setCell]; exact (h1 j hj).2
  · rw [World.cell?_setCell_other _ _ _ _ (by first | (simp; done) | (simp; omega))]; exact h2
  · rw [World.frozen?_setCell]; exact h3

set_option maxRecDepth 100000 in
set_option maxHeartbeats 800000 in
theorem rheard_any (b : Nat) (f : Nat → Int) (k : Int) (i : Nat) (w : World) (h : RMade w b f k) (hi : i < 4) :
    Calls Try.prog 25 #[.pointer (some ⟨b, 0, none⟩), .int .i64 i] w fun e w' => e = .returned (.bool true) ∧ RMade w' b (fun j => if j = i then 0 else f j) k ∧ ∀ B, B ≤ b → Below B w w' := by
  have H := Lib.hid h
  have hb0 : (decide ((0 : Int) ≤ (i : Int)) && decide ((i : Int) < 4)) = true := by simp; omega
  have HB := Lib.hid hb0
  have k0 := (h.1 i hi).1; have z0 := (h.1 i hi).2
  clear h hb0
  go_enter Try.func25, Try.ntmps25
  go_wp2_with fail
  refine (rhas_any _ _).mono ?_
  rintro e w1 ⟨rfl, rfl⟩
  rw [HB.out]
  go_wp2_with fail
  refine (rhas_any _ _).mono ?_
  rintro e w1 ⟨rfl, rfl⟩
  rw [HB.out]
  go_wp2
  go_ret
  exact ⟨rfl, H.out.set hi 0, fun B hB => (Below.refl _ _).setCell hB _⟩
end Go.Proofs.Ytkicaomcbmmjpaa
