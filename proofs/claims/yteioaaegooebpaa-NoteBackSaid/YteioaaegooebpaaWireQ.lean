/- Package catenaref02: a Reader's Text, where there is one. Conditions: texts of at most 2^63-1 bytes. -/
import Derived.Test.YteioaaegooebpaaWireP
import Derived.Test.YteioaaegooebpaaStrOps
namespace Go.Proofs.Yteioaaegooebpaa
open Go.RowKit Go.PlainAid

set_option maxRecDepth 100000 in
set_option maxHeartbeats 1600000 in
theorem xrText_good (b : Nat) (s : ByteArray) (a m : Int) (n a2 : Nat) (w : World) (h : XRd w b s a 0) (hs : s.size ≤ 9223372036854775807) (hm1 : m ≤ 9223372036854775807) (hg : bigR s a 0 = ((n : Int), (a2 : Int), 0)) (hle : a2 + n ≤ s.size) (hmn : (n : Int) ≤ m) :
    Calls Try.prog 74 #[.pointer (some ⟨b, 0, none⟩), .int .i64 m] w fun e w' => e = .returned (.string (s.extract a2 (a2 + n))) ∧ XRd w' b s ((a2 : Int) + n) 0 ∧ But (Own b) w w' := by
  have H := Lib.hid h
  clear h
  have h0 : ¬ m < 0 := by omega
  have h3 : ¬ m < (n : Int) := by omega
  have hwm : IntKind.u64.wrap m = m := u64_nonneg (by omega) (by omega)
  have hwn : IntKind.i64.wrap (n : Int) = (n : Int) := IntWalk.i64_in _ ⟨by omega, by omega⟩
  have hsub : IntKind.i64.wrap ((s.size : Int) - (a2 : Int)) = (s.size : Int) - (a2 : Int) := IntWalk.i64_in _ ⟨by omega, by omega⟩
  have hwd : IntKind.u64.wrap ((s.size : Int) - (a2 : Int)) = (s.size : Int) - (a2 : Int) := u64_nonneg (by omega) (by omega)
  have h4 : ¬ ((s.size : Int) - (a2 : Int) < (n : Int)) := by omega
  have hadd : IntKind.i64.wrap ((a2 : Int) + (n : Int)) = (a2 : Int) + (n : Int) := IntWalk.i64_in _ ⟨by omega, by omega⟩
  have hsl := slice_run s a2 (a2 + n) (a2 : Int) ((a2 : Int) + (n : Int)) rfl (by omega) (by omega) (by omega)
  go_enter Try.func74, Try.ntmps74
  go_wp2_with fail
  refine (xrBig_any b s a 0 _ H.out hs).mono ?_
  rintro e w1 ⟨rfl, hm, hb⟩
  rw [hg] at hm ⊢
  have c0 := hm.ok.txt; have c1 := hm.ok.pos; have c2 := hm.ok.err; have z1 := hm.ok.fr1
  have HF := Lib.hid (fun k => ((hm.ok.below (below_draws (Below.refl _ _) k)).setPos ((a2 : Int) + n)))
  have HB := Lib.hid (fun k => (hb.draws k).setCell (p := ⟨b, 1, none⟩) (fun _ => rfl) (.int .i64 ((a2 : Int) + n)))
  clear hm hb
  go_wp2_with fail
  go_quiet (fail)
  go_wp2_with fail
  go_quiet (fail)
  go_wp2
  go_ret
  exact ⟨rfl, HF.out _, HB.out _⟩
end Go.Proofs.Yteioaaegooebpaa
