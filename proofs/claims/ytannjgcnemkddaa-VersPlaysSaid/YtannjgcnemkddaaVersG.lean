/- catenalaw14.awake. Conditions: none. -/
import Derived.Test.YtannjgcnemkddaaVersF
import Derived.Test.YtannjgcnemkddaaAgreeC
namespace Go.Proofs.Ytannjgcnemkddaa
open Go.RowKit Go.PlainAid

set_option maxRecDepth 100000 in
set_option maxHeartbeats 800000 in
theorem awake14 (w : World) :
    Calls Try.prog 27 #[] w fun e w' => e = .returned (.bool true) ∧ Below w.heap.size w w' := by
  go_enter Try.func27, Try.ntmps27
  go_wp2_with fail
  have hb0 : Below w.heap.size w (w.alloc (.cells #[.int .u64 3, .string ⟨#[97]⟩, .bool false] 38)) := (Below.refl _ _).alloc (Nat.le_refl _) _
  refine (put_old _ [(3, ⟨#[97]⟩, false)] (7, ⟨#[98]⟩, false) _ (built_rows (enc := cellE) (sz := 3) (w := w) 38 [(3, ⟨#[97]⟩, false)] (fun _ _ => rfl) rfl (by decide) rfl) (by decide) (by decide) 0 rfl (by decide)).mono ?_
  rintro e w1 ⟨v1, rfl, hs1, hb1⟩
  replace hs1 : SliceOf cellE 3 w1 v1 [(3, ⟨#[97]⟩, false), (7, ⟨#[98]⟩, false)] := hs1
  have HB1 := Lib.hid (hb0.trans (hb1.mono hb0.size))
  have HS1 := Lib.hid hs1
  clear hb0 hb1
  obtain ⟨ao, cap, rfl, _, _, _, _⟩ := hs1
  have e1 : atS [(3, ⟨#[97]⟩, false), (7, ⟨#[98]⟩, false)] 5 = (⟨#[97]⟩, true) := by rfl
  have E1 := Lib.hid e1
  have ok : Hid (∀ c ∈ ([(3, ⟨#[97]⟩, false), (7, ⟨#[98]⟩, false)] : List CellT), cellOk c) := Lib.hid (by intro c hc; simp at hc; rcases hc with rfl | rfl <;> rfl)
  go_wp2_with fail
  refine (at_any _ _ _ _ HS1.out ok.out).mono ?_
  rintro e w2 ⟨rfl, hb2⟩
  rw [E1.out]
  have HS2 := Lib.hid (HS1.out.below hb2)
  have HB2 := Lib.hid (HB1.out.trans (hb2.mono HB1.out.size))
  clear hb2 e1
  go_wp2_with fail
  refine (prune_any _ _ 7 _ HS2.out ok.out (by decide)).mono ?_
  rintro e w3 ⟨v3, rfl, hs3, hb3⟩
  have e2 : ([(3, ⟨#[97]⟩, false), (7, ⟨#[98]⟩, false)] : List CellT).drop (pruneN [(3, ⟨#[97]⟩, false), (7, ⟨#[98]⟩, false)] 7) = [(7, ⟨#[98]⟩, false)] := by rfl
  rw [e2] at hs3
  obtain ⟨ao3, cap3, rfl, _, _, _, _⟩ := hs3
  have HB3 := Lib.hid (HB2.out.trans (hb3.mono HB2.out.size))
  clear hb3 e2
  go_wp2
  go_ret
  exact ⟨rfl, HB3.out⟩
end Go.Proofs.Ytannjgcnemkddaa
