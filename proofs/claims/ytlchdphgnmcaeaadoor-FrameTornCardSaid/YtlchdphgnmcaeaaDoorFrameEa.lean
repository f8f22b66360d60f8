/- catenalaw04: awake. Conditions: the table reads as it is laid. -/
import Derived.Test.YtlchdphgnmcaeaaDoorFrameD
import Derived.Test.YtlchdphgnmcaeaaDoorBytes
import Derived.Deep.OwnRows
namespace Go.Proofs.YtlchdphgnmcaeaaDoor
open Go.RowKit Go.PlainAid Go.Deep

theorem putR_small (s : ByteArray) (h : s.size ≤ 65536) : putR s = (frameB s, 0) := if_neg (by omega)
theorem next_pre (pre s : ByteArray) (hs : s.size ≤ 65536) : nextR (pre ++ frameB s) (pre.size : Int) = (s, ((pre.size + (frameB s).size : Nat) : Int), 0) := by
  have h := next_frame pre s ⟨#[]⟩ hs
  rw [show (pre ++ frameB s ++ ⟨#[]⟩ : ByteArray) = pre ++ frameB s from bytes_eq (by rw [app_list]; simp)] at h
  exact h
theorem next_alone (s : ByteArray) (hs : s.size ≤ 65536) : nextR (frameB s) 0 = (s, (((frameB s).size : Nat) : Int), 0) := by
  have h := next_pre ⟨#[]⟩ s hs
  rw [show ((⟨#[]⟩ : ByteArray) ++ frameB s) = frameB s from bytes_eq (by rw [app_list]; simp), show (⟨#[]⟩ : ByteArray).size = 0 from rfl] at h
  rw [Nat.zero_add] at h
  exact h
def aB : ByteArray := ⟨#[97]⟩
def xB : ByteArray := ⟨#[120]⟩

set_option maxRecDepth 100000 in
set_option maxHeartbeats 800000 in
theorem awake04 (w : World) (ht : Tab w) :
    Calls Tryd.prog 12 #[] w fun e w' => e = .returned (.bool true) ∧ Below w.heap.size w w' := by
  have HT := Lib.hid ht; clear ht
  obtain ⟨F, hF⟩ : ∃ F, F = frameB ⟨#[97]⟩ := ⟨_, rfl⟩
  have hFs : F.size = 6 := by rw [hF, frameB_size]; decide
  have hN : nextR (⟨#[120]⟩ ++ F) 1 = (⟨#[97]⟩, 7, 0) := by
    have h := next_pre ⟨#[120]⟩ ⟨#[97]⟩ (by decide)
    rw [← hF, hFs] at h
    exact h
  have hP : putR ⟨#[97]⟩ = (F, 0) := by rw [hF]; exact putR_small _ (by decide)
  have hcat := concat_run ⟨#[120]⟩ F (by rw [hFs]; decide)
  have hsz : ((⟨#[120]⟩ : ByteArray) ++ F).size ≤ 140737488351232 := by rw [ByteArray.size_append, hFs]; decide
  have HN := Lib.hid hN; have HP := Lib.hid hP; have HSZ := Lib.hid hsz
  clear hF hN hP hsz
  go_enter Tryd.func12, Tryd.ntmps12
  go_wp2_with fail
  refine (put_frame _ _ HT.out (by decide)).mono ?_
  rintro e w1 ⟨rfl, hb1⟩
  have HB1 := Lib.hid hb1; have HT1 := Lib.hid (HT.out.below hb1); clear hb1
  rw [HP.out]
  unfold putV
  go_wp2_with fail
  refine (next_any _ _ _ HT1.out (by have := HSZ.out; omega)).mono ?_
  rintro e w2 ⟨rfl, hb2⟩
  have HB2 := Lib.hid (HB1.out.trans (hb2.mono HB1.out.size)); clear hb2
  rw [HN.out]
  unfold nextV
  go_wp2
  go_ret
  exact ⟨rfl, HB2.out⟩

theorem info_u8' : (Tryd.prog.info? 5).map (fun i => (i.zero, i.size, i.bytes)) = some (some (.int .u8 0), 1, 1) := by kernel_rfl
theorem wf_u16 {a : Int} (h : (Lit.int .u16 a).wf = true) : ∃ c : Nat, a = c ∧ c < 65536 := by
  have : 0 ≤ a ∧ a ≤ 65535 := by simpa [Lit.wf, IntKind.min, IntKind.max, IntKind.signed, IntKind.bits] using h
  exact ⟨a.toNat, by omega, by omega⟩
theorem wf_u8' {a : Int} (h : (Lit.int .u8 a).wf = true) : ∃ c : Nat, a = c ∧ c < 256 := by
  have : 0 ≤ a ∧ a ≤ 255 := by simpa [Lit.wf, IntKind.min, IntKind.max, IntKind.signed, IntKind.bits] using h
  exact ⟨a.toNat, by omega, by omega⟩
theorem empty_beq : ((⟨#[]⟩ : ByteArray).toList).isEmpty = true := by rw [toList_data]; rfl
end Go.Proofs.YtlchdphgnmcaeaaDoor
