/- catenalaw04: awake, FrameLimits. Conditions: the table reads as it is laid. -/
import Derived.Test.YtkicaomcbmmjpaaDoorFrameD
import Derived.Test.YtkicaomcbmmjpaaDoorBytes
import Derived.Deep.OwnRows
namespace Go.Proofs.YtkicaomcbmmjpaaDoor
open Go.RowKit Go.PlainAid Go.Deep

theorem putR_small (s : ByteArray) (h : s.size ≤ 65536) : putR s = (frameB s, 0) := if_neg (by omega)
theorem next_pre (pre s : ByteArray) (hs : s.size ≤ 65536) : nextR (pre ++ frameB s) (pre.size : Int) = (s, ((pre.size + (frameB s).size : Nat) : Int), 0) := by
  have h := next_frame pre s ⟨#[]⟩ hs
  rw [show (pre ++ frameB s ++ ⟨#[]⟩ : ByteArray) = pre ++ frameB s from bytes_eq (by rw [app_list]; simp)] at h
  exact h
theorem next_alone (s : ByteArray) (hs : s.size ≤ 65536) : nextR (frameB s) 0 = (s, (((frameB s).size : Nat) : Int), 0) := by
  have h := next_pre ⟨#[]⟩ s hs
  rw [show ((⟨#[]⟩ : ByteArray) ++ frameB s) = frameB s from bytes_eq (by rw [app_list]; simp), show (⟨#[]⟩ : ByteArray).size = 0 from rfl] at h
  rw [Nat.zero_add] at h
  exact h
def aB : ByteArray := ⟨#[97]⟩
def xB : ByteArray := ⟨#[120]⟩

set_option maxRecDepth 100000 in
set_option maxHeartbeats 800000 in
theorem awake04 (w : World) (ht : Tab w) :
    Calls Tryd.prog 14 #[] w fun e w' => e = .returned (.bool true) ∧ Below w.heap.size w w' := by
  have HT := Lib.hid ht; clear ht
  obtain ⟨F, hF⟩ : ∃ F, F = frameB ⟨#[97]⟩ := ⟨_, rfl⟩
  have hFs : F.size = 6 := by rw [hF, frameB_size]; decide
  have hN : nextR (⟨#[120]⟩ ++ F) 1 = (⟨#[97]⟩, 7, 0) := by
    have h := next_pre ⟨#[120]⟩ ⟨#[97]⟩ (by decide)
    rw [← hF, hFs] at h
    exact h
  have hP : putR ⟨#[97]⟩ = (F, 0) := by rw [hF]; exact putR_small _ (by decide)
  have hcat := concat_run ⟨#[120]⟩ F (by rw [hFs]; decide)
  have hsz : ((⟨#[120]⟩ : ByteArray) ++ F).size ≤ 140737488351232 := by rw [ByteArray.size_append, hFs]; decide
  have HN := Lib.hid hN; have HP := Lib.hid hP; have HSZ := Lib.hid hsz
  clear hF hN hP hsz
  go_enter Tryd.func14, Tryd.ntmps14
  go_wp2_with fail
  refine (put_frame _ _ HT.out (by decide)).mono ?_
  rintro e w1 ⟨rfl, hb1⟩
  have HB1 := Lib.hid hb1; have HT1 := Lib.hid (HT.out.below hb1); clear hb1
  rw [HP.out]
  unfold putV
  go_wp2_with fail
  refine (next_any _ _ _ HT1.out (by have := HSZ.out; omega)).mono ?_
  rintro e w2 ⟨rfl, hb2⟩
  have HB2 := Lib.hid (HB1.out.trans (hb2.mono HB1.out.size)); clear hb2
  rw [HN.out]
  unfold nextV
  go_wp2
  go_ret
  exact ⟨rfl, HB2.out⟩

theorem info_u8' : (Tryd.prog.info? 5).map (fun i => (i.zero, i.size, i.bytes)) = some (some (.int .u8 0), 1, 1) := by kernel_rfl
theorem wf_u16 {a : Int} (h : (Lit.int .u16 a).wf = true) : ∃ c : Nat, a = c ∧ c < 65536 := by
  have : 0 ≤ a ∧ a ≤ 65535 := by simpa [Lit.wf, IntKind.min, IntKind.max, IntKind.signed, IntKind.bits] using h
  exact ⟨a.toNat, by omega, by omega⟩
theorem wf_u8' {a : Int} (h : (Lit.int .u8 a).wf = true) : ∃ c : Nat, a = c ∧ c < 256 := by
  have : 0 ≤ a ∧ a ≤ 255 := by simpa [Lit.wf, IntKind.min, IntKind.max, IntKind.signed, IntKind.bits] using h
  exact ⟨a.toNat, by omega, by omega⟩
theorem empty_beq : ((⟨#[]⟩ : ByteArray).toList).isEmpty = true := by rw [toList_data]; rfl

set_option maxRecDepth 100000 in
set_option maxHeartbeats 1600000 in
theorem limits_law (ni mi : Int) (w : World) (ht : Tab w) (hn : (Lit.int .u16 ni).wf = true) (hm : (Lit.int .u8 mi).wf = true) :
    Calls Tryd.prog 4 #[.int .u16 ni, .int .u8 mi] w fun e w' => e = .returned (.bool true) ∧ Below w.heap.size w w' := by
  obtain ⟨n, rfl, hnl⟩ := wf_u16 hn
  obtain ⟨m, rfl, hml⟩ := wf_u8' hm
  obtain ⟨i0, hi, hz0, hz1, hz2⟩ := info_parts info_u8'
  obtain ⟨N, hN⟩ : ∃ N : Nat, N = n + m := ⟨_, rfl⟩
  have hmk : ∀ w : World, (Instr.makeSlice 40 (.int .i64 ((n : Int) + (m : Int))) (.int .i64 ((n : Int) + (m : Int)))).run Tryd.prog w = .ok (.slice (some ⟨w.heap.size, 0, none⟩) N N) (w.alloc (.cells (madeCells #[.int .u8 0] N) 5)) := fun w => by
    rw [show (n : Int) + (m : Int) = (N : Int) by omega]
    exact run_make_row (P := Tryd.prog) 40 5 i0 (.int .u8 0) Tryd.underlying40 hi hz0 hz1 rfl .i64 .i64 N (by rw [hz2]; omega) (by omega) w
  have hN2 : N ≤ 65791 := by omega
  obtain ⟨S, hS⟩ : ∃ S : ByteArray, S = ⟨((List.range N).map (fun _ => (0 : UInt8))).toArray⟩ := ⟨_, rfl⟩
  have hSs : S.size = N := by rw [hS]; simp [ByteArray.size]
  have hB0 := made_bytes w N 5
  have hcv := hB0.text (cap := N) Tryd.underlying40 Tryd.underlying5 Tryd.underlying9
  rw [← hS] at hcv
  have HT := Lib.hid (ht.below ((Below.refl _ _).alloc (Nat.le_refl _) (.cells (madeCells #[.int .u8 0] N) 5)))
  have HB0 : Hid (Below w.heap.size w (w.alloc (.cells (madeCells #[.int .u8 0] N) 5))) := Lib.hid ((Below.refl _ _).alloc (Nat.le_refl _) _)
  have HSS := Lib.hid hSs
  have hemp := empty_beq
  have hS47 : S.size ≤ 140737488351232 := by omega
  clear hi hz0 hz1 hz2 ht hn hm hS hB0 hN hSs
  by_cases hbig : 65536 < S.size
  · have HP : Hid (putR S = (⟨#[]⟩, 3)) := Lib.hid (if_pos hbig)
    go_enter Tryd.func4, Tryd.ntmps4
    go_wp2_with fail
    refine (put_frame S _ HT.out hS47).mono ?_
    rintro e w1 ⟨rfl, hb1⟩
    have HB1 := Lib.hid (HB0.out.trans (hb1.mono HB0.out.size)); have HT1 := Lib.hid (HT.out.below hb1); clear hb1
    rw [HP.out]
    unfold putV
    go_wp2_with fail
    refine (awake04 _ HT1.out).mono ?_
    rintro e w2 ⟨rfl, hb2⟩
    have HB2 := Lib.hid (HB1.out.trans (hb2.mono HB1.out.size)); clear hb2
    go_wp2
    go_ret
    exact ⟨rfl, HB2.out⟩
  · have HP : Hid (putR S = (frameB S, 0)) := Lib.hid (if_neg hbig)
    have HNx := Lib.hid (next_alone S (by omega))
    have hFs : (frameB S).size ≤ 140737488351232 := by
      have h := putL_len (S.size : Int); have h2 := lenOf_bd (S.size : Int)
      rw [frameB_size]; omega
    obtain ⟨F, hF⟩ : ∃ F, F = frameB S := ⟨_, rfl⟩
    rw [← hF] at HP HNx hFs
    clear hF
    go_enter Tryd.func4, Tryd.ntmps4
    go_wp2_with fail
    refine (put_frame S _ HT.out hS47).mono ?_
    rintro e w1 ⟨rfl, hb1⟩
    have HB1 := Lib.hid (HB0.out.trans (hb1.mono HB0.out.size)); have HT1 := Lib.hid (HT.out.below hb1); clear hb1
    rw [HP.out]
    unfold putV
    go_wp2_with fail
    refine (next_any F 0 _ HT1.out (by omega)).mono ?_
    rintro e w2 ⟨rfl, hb2⟩
    have HB2 := Lib.hid (HB1.out.trans (hb2.mono HB1.out.size)); have HT2 := Lib.hid (HT1.out.below hb2); clear hb2
    rw [HNx.out]
    unfold nextV
    go_wp2_with fail
    refine (awake04 _ HT2.out).mono ?_
    rintro e w3 ⟨rfl, hb3⟩
    have HB3 := Lib.hid (HB2.out.trans (hb3.mono HB2.out.size)); clear hb3
    go_wp2
    go_ret
    exact ⟨rfl, HB3.out⟩
end Go.Proofs.YtkicaomcbmmjpaaDoor
