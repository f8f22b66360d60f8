/- Package varnum: the walk of the law 'any number, any text'. Conditions: a text of at most 2^43 bytes. -/
import Derived.Test.YtfjcmmfjacoodaaVarnumG
import Derived.Test.YtfjcmmfjacoodaaVarnumC
namespace Go.Proofs.Ytfjcmmfjacoodaa
open Go.RowKit Go.PlainAid

theorem us_at {l : List Int} {j : Nat} (hj : j < l.length) : (us l)[j]? = some (.int .u64 l[j]) := by
  simp [us, List.getElem?_eq_getElem hj]

set_option maxRecDepth 100000 in
set_option maxHeartbeats 400000 in
theorem plays_walk (n : Int) (s : ByteArray) (a : Int) (w : World) (h0 : 0 ≤ n) (h1 : n < 18446744073709551616) (hs : s.size ≤ 8796093022208) :
    Calls Try.prog 3 #[.int .u64 n, .string s, .int .i64 a] w fun e w' => e = .returned (.bool true) ∧ Below w.heap.size w w' := by
  obtain ⟨x, to, f, hr⟩ : ∃ x to f, getR s a = (x, to, f) := ⟨_, _, _, rfl⟩
  obtain ⟨L, E, hL⟩ : ∃ L E, allR s (s.size + 1) 0 [] = (L, E) := ⟨_, _, rfl⟩
  have HR := Lib.hid hr; have HA := Lib.hid hL; have H1 := Lib.hid h1
  have hpl := putL_len n
  have e1 : (lenOf n == ((putL n).length : Int)) = true := by rw [hpl]; simp
  clear hr hL h1 hpl
  go_enter Try.func3, Try.ntmps3
  go_wp2_with fail
  refine (get_any _ _ _ (by omega)).mono ?_
  rintro e w1 ⟨rfl, rfl⟩
  rw [HR.out]
  dsimp only [getV]
  go_wp2_with fail
  refine (rget_any _ _ _ (by omega)).mono ?_
  rintro e w1 ⟨rfl, hb1⟩
  rw [HR.out]
  dsimp only [getV]
  have HB1 := Lib.hid hb1; clear hb1
  go_wp2_with fail
  refine (all_any _ _ hs).mono ?_
  rintro e w2 ⟨v1, rfl, hown1, hb2⟩
  rw [HA.out] at hown1
  rw [HA.out]
  have HO1 := Lib.hid hown1
  have HB2 := Lib.hid (HB1.out.trans (hb2.mono HB1.out.size))
  clear hown1 hb2
  dsimp only
  go_wp2_with fail
  refine (rall_any _ _ hs).mono ?_
  rintro e w3 ⟨v2, rfl, hown2, hb3⟩
  rw [HA.out] at hown2
  rw [HA.out]
  have HO2 := Lib.hid hown2
  have HO3 := Lib.hid (row_below HO1.out hb3)
  have HB3 := Lib.hid (HB2.out.trans (hb3.mono HB2.out.size))
  clear hown2 hb3
  dsimp only
  obtain ⟨ao1, c1, rfl, hlen, hv1⟩ := row_view HO3.out
  obtain ⟨ao2, c2, rfl, _, hv2⟩ := row_view HO2.out
  have HV1 := Lib.hid hv1; have HV2 := Lib.hid hv2
  clear hv1 hv2 HO1
  go_wp2_with fail
  go_loopg [17] (L.length + 1) (fun g s17 wr => ∃ i : Nat, s17 = .int .i64 i ∧ i ≤ L.length ∧ L.length + 1 ≤ i + g ∧ Below w3.heap.size w3 wr)
  case atStart => exact ⟨0, rfl, by omega, by omega, Below.refl _ _⟩
  case round =>
    obtain ⟨i, rfl, hi, hg, hbel⟩ := hrel
    have HB := Lib.hid hbel; clear hbel
    by_cases hlt : i < L.length
    · obtain ⟨g1, rfl, hg1, hc1⟩ := HV1.out i hlt
      obtain ⟨g2, rfl, hg2, hc2⟩ := HV2.out i hlt
      rw [us_at hlt] at hc1 hc2
      obtain ⟨y, hy⟩ : ∃ y, y = L[i] := ⟨_, rfl⟩
      rw [← hy] at hc1 hc2
      have k1 := cell_below HB.out hc1
      have k2 := cell_below HB.out hc2
      clear hc1 hc2 hy
      go_wp2_with fail
      go_quiet (fail)
      go_wp2
      go_roundg (gk - 1)
      case rel => exact ⟨i + 1, by go_num, by omega, by omega, below_draws HB.out nq⟩
      case measure => omega
    · have HW := Lib.hid (HB3.out.trans (HB.out.mono HB3.out.size))
      clear HB
      go_wp2_with fail
      refine (put_any _ _ h0 H1.out).mono ?_
      rintro e w4 ⟨rfl, hb4⟩
      have HW4 := Lib.hid (HW.out.trans (hb4.mono HW.out.size)); clear hb4
      go_wp2_with fail
      refine (rput_any _ _ h0 H1.out).mono ?_
      rintro e w5 ⟨rfl, hb5⟩
      have HW5 := Lib.hid (HW4.out.trans (hb5.mono HW4.out.size)); clear hb5
      go_wp2_with fail
      refine (len_any _ _ h0 H1.out).mono ?_
      rintro e w6 ⟨rfl, rfl⟩
      go_wp2_with fail
      refine (rput_any _ _ h0 H1.out).mono ?_
      rintro e w6 ⟨rfl, hb6⟩
      have HW6 := Lib.hid (HW5.out.trans (hb6.mono HW5.out.size)); clear hb6
      go_wp2_with fail
      refine (awake_any _).mono ?_
      rintro e w7 ⟨rfl, hb7⟩
      have HW7 := Lib.hid (HW6.out.trans (hb7.mono HW6.out.size)); clear hb7
      go_wp2
      go_ret
      exact ⟨rfl, HW7.out⟩

theorem plays_law (n : Int) (s : ByteArray) (a : Int) (w : World) (hn : (Lit.int .u64 n).wf = true) (hs : s.size ≤ 140737488351232) (_ha : (Lit.int .i64 a).wf = true) (hk : s.size ≤ 1048576) :
    Calls Try.prog 3 #[.int .u64 n, .string s, .int .i64 a] w fun e w' => e = .returned (.bool true) ∧ Below w.heap.size w w' :=
  plays_walk n s a w (wf_u64 hn).1 (wf_u64 hn).2 (by omega)
end Go.Proofs.Ytfjcmmfjacoodaa
