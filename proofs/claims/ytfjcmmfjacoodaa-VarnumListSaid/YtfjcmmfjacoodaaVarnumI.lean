/- Package varnum: the walk of the law 'one behind the other'. Conditions: none. -/
import Derived.Test.YtfjcmmfjacoodaaVarnumE
import Derived.Test.YtfjcmmfjacoodaaVarnumD
namespace Go.Proofs.Ytfjcmmfjacoodaa
open Go.RowKit Go.PlainAid

/-- A slice of integers that came in, element by element. -/
theorem IsRow.view {k : IntKind} {w : World} {a : Option Addr} {len cap : Nat} {zs : List Int} (h : IsRow k w a len cap zs) :
    len ≤ zs.length ∧ len ≤ 9223372036854775807 ∧ ∀ j (hj : j < len), ∃ b off z, a = some ⟨b, off, none⟩ ∧ zs[j]? = some z ∧ w.cell? ⟨b, off + j, none⟩ = some (.int k z) ∧ (Lit.int k z).wf = true := by
  rcases h with ⟨rfl, rfl, rfl, rfl⟩ | ⟨x, rfl, hl, hm, hz, hcell, hwz⟩
  · exact ⟨by simp, by omega, fun j hj => absurd hj (by omega)⟩
  · refine ⟨by omega, by unfold maxLen at hm; omega, fun j hj => ?_⟩
    have hc := hcell j (by omega)
    obtain ⟨b, off, spot⟩ := x
    have hspot : spot = none := by
      have hc0 := hcell 0 (by omega)
      simpa [Addr.add] using World.cell?_spot hc0
    subst hspot
    have hjz : j < zs.length := by omega
    refine ⟨b, off, zs[j], rfl, List.getElem?_eq_getElem hjz, ?_, hwz _ (List.getElem_mem hjz)⟩
    rw [Addr.add_lit] at hc
    rw [hc]
    simp [List.getD, List.getElem?_eq_getElem hjz]

/-- The texts of numbers, one behind the other. -/
def cat : List Int → List UInt8
  | [] => []
  | n :: l => putL n ++ cat l
theorem cat_snoc (l : List Int) (n : Int) : cat (l ++ [n]) = cat l ++ putL n := by
  induction l with
  | nil => simp [cat]
  | cons x l ih => simp [cat, ih]
theorem cat_len (l : List Int) : (cat l).length ≤ 9 * l.length := by
  induction l with
  | nil => simp [cat]
  | cons x l ih => have := putL_len x; have := lenOf_bd x; simp only [cat, List.length_append, List.length_cons]; omega
theorem all_cat {s : ByteArray} (l : List Int) : ∀ (f a : Nat) (acc : List Int), (∀ n ∈ l, 0 ≤ n ∧ n < 18446744073709551616) → has s a (cat l) → s.size = a + (cat l).length → (cat l).length < f →
    allR s f a acc = (acc ++ l, 0) := by
  induction l with
  | nil =>
    intro f a acc _ _ hs hf
    obtain ⟨f, rfl⟩ : ∃ k, f = k + 1 := ⟨f - 1, by omega⟩
    rw [allR_end (by simp [cat] at hs; omega)]; simp
  | cons n l ih =>
    intro f a acc hw hh hs hf
    obtain ⟨f, rfl⟩ : ∃ k, f = k + 1 := ⟨f - 1, by omega⟩
    simp only [cat, List.length_append] at hs hf
    obtain ⟨h1, h2⟩ := has_app hh
    have hn := hw n (by simp)
    have hl := putL_len n; have hl2 := lenOf_bd n
    have hg := get_put n hn.1 hn.2 (by omega) h1
    rw [allR_step (by omega) (by rw [hg]), hg]
    simp only
    rw [show ((a : Int) + lenOf n).toNat = a + (putL n).length by omega]
    rw [ih f (a + (putL n).length) (acc ++ [n]) (fun m hm => hw m (by simp [hm])) h2 (by omega) (by omega)]
    simp
theorem has_self (l : List UInt8) : has ⟨l.toArray⟩ 0 l := by
  intro j hj; rw [Nat.zero_add]; exact bt_lit _ _ hj
theorem all_self (l : List Int) (h : ∀ n ∈ l, 0 ≤ n ∧ n < 18446744073709551616) : allR ⟨(cat l).toArray⟩ ((⟨(cat l).toArray⟩ : ByteArray).size + 1) 0 [] = (l, 0) := by
  have hs : (⟨(cat l).toArray⟩ : ByteArray).size = (cat l).length := rfl
  rw [hs, all_cat l _ 0 [] h (has_self _) (by rw [hs]; omega) (by omega)]; simp

theorem str_app (l m : List UInt8) : (⟨l.toArray⟩ : ByteArray) ++ ⟨m.toArray⟩ = ⟨(l ++ m).toArray⟩ := by
  apply ByteArray.ext; rw [ByteArray.data_append]; simp

set_option maxRecDepth 100000 in
set_option maxHeartbeats 400000 in
theorem list_walk (ao : Option Addr) (len cap : Nat) (zs : List Int) (w : World) (hrow : IsRow .u64 w ao len cap zs) :
    Calls Try.prog 6 #[.slice ao len cap] w fun e w' => e = .returned (.bool true) ∧ Below w.heap.size w w' := by
  obtain ⟨hlz, hlen, hv⟩ := hrow.view
  have HV := Lib.hid hv; clear hv hrow
  go_enter Try.func6, Try.ntmps6
  go_wp2_with fail
  go_loopg [3, 4] (101) (fun g s3 s4 wr => ∃ i : Nat, s3 = .string ⟨(cat (zs.take i)).toArray⟩ ∧ s4 = .int .i64 i ∧ i ≤ len ∧ i ≤ 100 ∧ 101 ≤ i + g ∧ Below w.heap.size w wr)
  case atStart => exact ⟨0, rfl, rfl, by omega, by omega, by omega, Below.refl _ _⟩
  case round =>
    obtain ⟨i, rfl, rfl, hi, hi2, hg, hbel⟩ := hrel
    have HB := Lib.hid hbel; clear hbel
    by_cases hlt : i < len ∧ i < 100
    · obtain ⟨hlt, h100⟩ := hlt
      obtain ⟨b, off, z, rfl, hz, hc, hwz⟩ := HV.out i hlt
      have k1 := cell_below HB.out hc
      obtain ⟨z0, z1⟩ := wf_u64 hwz
      have H1 := Lib.hid z1
      have hcl := cat_len (zs.take i)
      have htl : (zs.take i).length ≤ i := List.length_take_le _ _
      have hp := putL_len z; have hp2 := lenOf_bd z
      have hsum : ((⟨(cat (zs.take i)).toArray⟩ : ByteArray).size : Nat) + (⟨(putL z).toArray⟩ : ByteArray).size ≤ 2000 := by
        show (cat (zs.take i)).length + (putL z).length ≤ 2000
        omega
      have e : cat (zs.take (i + 1)) = cat (zs.take i) ++ putL z := by
        rw [List.take_add_one, hz]; exact cat_snoc _ _
      have HE := Lib.hid e
      clear z1 hc hwz hcl htl hp hp2 e
      go_wp2_with fail
      refine (put_any _ _ z0 H1.out).mono ?_
      rintro e w1 ⟨rfl, hb1⟩
      go_wp2_with fail
      go_roundg (gk - 1)
      case rel => exact ⟨i + 1, by rw [HE.out, str_app], by go_num, by omega, by omega, by omega, HB.out.trans (hb1.mono HB.out.size)⟩
      case measure => omega
    · obtain ⟨m, hm⟩ : ∃ m, m = min len 100 := ⟨_, rfl⟩
      obtain rfl : i = m := by omega
      have hcl := cat_len (zs.take i)
      have htl : (zs.take i).length ≤ i := List.length_take_le _ _
      have htl2 : (zs.take i).length = i := by rw [List.length_take]; omega
      have hsz : (⟨(cat (zs.take i)).toArray⟩ : ByteArray).size ≤ 2000 := by
        show (cat (zs.take i)).length ≤ 2000
        omega
      have hal := all_self (zs.take i) (fun n hn => by
        obtain ⟨j, hj, rfl⟩ := List.getElem_of_mem hn
        obtain ⟨_, _, z, _, hz, _, hwz⟩ := HV.out j (by omega)
        rw [List.getElem_take]
        rw [List.getElem?_eq_getElem (by omega)] at hz
        cases hz
        exact wf_u64 hwz)
      have HA := Lib.hid hal; have HL := Lib.hid htl2
      have hmin : min (len : Int) 100 = i := by omega
      have hx : i = len ∨ (i = 100 ∧ 100 < len) := by omega
      obtain ⟨M, hM⟩ : ∃ M, M = i := ⟨_, rfl⟩
      have hM1 : M ≤ i := by omega
      have hM2 : i ≤ M := by omega
      have hM3 : M ≤ len := by omega
      clear hcl htl hal htl2 hm hM
      rcases hx with rfl | ⟨rfl, h100⟩
      all_goals
        go_wp2_with fail
        refine (all_any _ _ (by omega)).mono ?_
        rintro e w2 ⟨v1, rfl, hown1, hb2⟩
        rw [HA.out] at hown1
        rw [HA.out]
        dsimp only at hown1 ⊢
        rw [HL.out] at hown1
        have HO1 := Lib.hid hown1
        have HB2 := Lib.hid (HB.out.trans (hb2.mono HB.out.size))
        clear hown1 hb2
        obtain ⟨ao1, c1, rfl, hlen1, hv1⟩ := row_view HO1.out
        have HV1 := Lib.hid hv1
        clear hv1
        go_wp2_with fail
        go_loopg [7] (M + 1) (fun g s7 wr => ∃ j : Nat, s7 = .int .i64 j ∧ j ≤ M ∧ M + 1 ≤ j + g ∧ Below w2.heap.size w2 wr)
        case atStart => exact ⟨0, rfl, by omega, by omega, Below.refl _ _⟩
        case round =>
          obtain ⟨j, rfl, hj, hg, hbel⟩ := hrel
          have HB3 := Lib.hid hbel; clear hbel
          by_cases hlt : j < M
          · obtain ⟨b, off, z, rfl, hz, hc, _⟩ := HV.out j (by omega)
            obtain ⟨g1, rfl, hg1, hc1⟩ := HV1.out j (by omega)
            have hz1 : (us (zs.take M))[j]? = some (.int .u64 z) := by
              rw [us, List.getElem?_map, List.getElem?_take_of_lt hlt, hz]; rfl
            obtain rfl : M = _ := Nat.le_antisymm hM1 hM2
            rw [hz1] at hc1
            have k1 := cell_below HB3.out hc1
            have k2 := cell_below (HB2.out.trans (HB3.out.mono HB2.out.size)) hc
            clear hc1 hc hz hz1
            go_wp2_with fail
            go_quiet (fail)
            go_wp2
            go_roundg (gk - 1)
            case rel => exact ⟨j + 1, by go_num, by omega, by omega, below_draws HB3.out nq⟩
            case measure => omega
          · have HW := Lib.hid (HB2.out.trans (HB3.out.mono HB2.out.size))
            clear HB3
            go_wp2_with fail
            refine (awake_any _).mono ?_
            rintro e w7 ⟨rfl, hb7⟩
            have HW7 := Lib.hid (HW.out.trans (hb7.mono HW.out.size)); clear hb7
            go_wp2
            go_ret
            exact ⟨rfl, HW7.out⟩

theorem list_law (ao : Option Addr) (len cap : Nat) (zs : List Int) (w : World) (hrow : IsRow .u64 w ao len cap zs) (_hc : cap * 8 ≤ 140737488351232) :
    Calls Try.prog 6 #[.slice ao len cap] w fun e w' => e = .returned (.bool true) ∧ Below w.heap.size w w' :=
  list_walk ao len cap zs w hrow
end Go.Proofs.Ytfjcmmfjacoodaa
