/- Package sum: a maker's calls. Conditions: none. -/
import Derived.Test.YtfjajahniocbkaaDoorSumB
namespace Go.Proofs.YtfjajahniocbkaaDoor
open Go.RowKit Go.PlainAid

set_option maxRecDepth 100000 in
set_option maxHeartbeats 1600000 in
theorem slow_any (b : Nat) (n : Int) (w : World) (h : Mk w b 0 0 0 n) :
    Calls Tryd.prog 21 #[.pointer (some ⟨b, 1, none⟩), .func (.func 17) #[.pointer (some ⟨b, 0, none⟩)] #[]] w fun e w' => e = .returned (.tuple #[]) ∧ Mk w' b 1 0 256 n ∧ But (fun x => x = b) w w' := by
  have h1 := h.setLock 1
  have hl := run_call_load (P := Tryd.prog) Tryd.func23 (by kernel_rfl) (by kernel_rfl) (by kernel_rfl) .u32 (by kernel_rfl) h1.done
  have hnot : ∀ (x : Bool) (w : World), (Op.unary .not (.bool x)).run Tryd.prog w = .ok (.bool (!x)) w := fun _ _ => rfl
  have H1 := Lib.hid h1
  have l0 := h.lock; have f0 := h.fr 2
  clear h h1
  go_enter_defers Tryd.func21, Tryd.ntmps21
  go_wp2_with (go_at_call 24; refine (lock_free ⟨b, 2, none⟩ _ l0 f0).mono ?_; rintro e w' ⟨rfl, rfl⟩)
  clear l0 f0
  go_wp2_with (first | (go_at_call 17; refine (fill_any b 1 n _ H1.out).mono ?_; rintro e w2 ⟨rfl, hm2, hb2⟩) | (go_at_call 20; go_in))
  have HM2 := Lib.hid hm2; have HB2 := Lib.hid hb2
  clear hm2 hb2
  go_wp2
  refine leaves_cons (f := 26) (args := #[.pointer (some ⟨b, 1, none⟩), .bool true]) (by simp) (by simp [go_sem]) ?_
  refine (storeTrue_d ⟨b, 1, none⟩ _ .returning _ HM2.out.done (HM2.out.fr 1)).mono ?_
  rintro e u' w'' ⟨rfl, rfl, hw3⟩
  have hm3 := HM2.out.drew.setDone 1
  rw [← hw3] at hm3
  refine leaves_cons (f := 25) (args := #[.pointer (some ⟨b, 2, none⟩)]) (by simp [settle]) (by simp [go_sem]) ?_
  refine (unlock_d ⟨b, 2, none⟩ _ _ hm3.lock (hm3.fr 2)).mono ?_
  rintro e u' w4 ⟨rfl, rfl, rfl⟩
  have hm4 := hm3.setLock 0
  have hb4 : But (fun x => x = b) w (w''.setCell ⟨b, 2, none⟩ (.int .i32 0)) := by
    rw [hw3]
    exact (((((But.refl _ _).store _ _).trans HB2.out).drew).store _ _).store _ _
  simp only [Leaves, settle, results, Tryd.results21]
  simp
  exact ⟨hm4, hb4⟩

set_option maxRecDepth 100000 in
set_option maxHeartbeats 1600000 in
/-- Whether or not it was done: behind it the table is filled. -/
theorem do_any (b : Nat) (d : Int) (T : Nat) (n : Int) (w : World) (h : Mk w b d 0 T n) (hd : d = 0 ∧ T = 0 ∨ d = 1 ∧ T = 256) :
    Calls Tryd.prog 16 #[.pointer (some ⟨b, 1, none⟩), .func (.func 17) #[.pointer (some ⟨b, 0, none⟩)] #[]] w fun e w' => e = .returned (.tuple #[]) ∧ Mk w' b 1 0 256 n ∧ But (fun x => x = b) w w' := by
  have hl := run_call_load (P := Tryd.prog) Tryd.func23 (by kernel_rfl) (by kernel_rfl) (by kernel_rfl) .u32 (by kernel_rfl) h.done
  have hnot : ∀ (x : Bool) (w : World), (Op.unary .not (.bool x)).run Tryd.prog w = .ok (.bool (!x)) w := fun _ _ => rfl
  rcases hd with ⟨rfl, rfl⟩ | ⟨rfl, rfl⟩
  · have H := Lib.hid h; clear h
    go_enter Tryd.func16, Tryd.ntmps16
    go_wp2_with (first | (go_at_call 21; refine (slow_any b n _ H.out).mono ?_; rintro e w' ⟨rfl, hm, hb⟩) | (go_at_call 20; go_in))
    have HM := Lib.hid hm; have HB := Lib.hid hb
    clear hm hb
    go_end0
    exact ⟨rfl, HM.out, HB.out⟩
  · have H := Lib.hid h; clear h
    go_enter Tryd.func16, Tryd.ntmps16
    go_wp2
    go_end0
    exact ⟨rfl, H.out, But.refl _ _⟩
end Go.Proofs.YtfjajahniocbkaaDoor
