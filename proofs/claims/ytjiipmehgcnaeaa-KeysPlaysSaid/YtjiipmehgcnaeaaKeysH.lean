/- catenalaw05: KeysPlays. Conditions: the texts within the form's reach. -/
import Derived.Test.YtjiipmehgcnaeaaKeysF
import Derived.Test.YtjiipmehgcnaeaaKeysG
namespace Go.Proofs.Ytjiipmehgcnaeaa
open Go.RowKit Go.PlainAid Go.WideMaps Go.Maps Go.Sort Go.Shelf

set_option maxRecDepth 100000 in
set_option maxHeartbeats 6400000 in
theorem keysPlays_any (k a b : ByteArray) (v : Value) (l : List ByteArray) (w : World) (hk : k.size ≤ 140737488351232) (_ : a.size ≤ 140737488351232) (_ : b.size ≤ 140737488351232) (hs : SliceOf strE 1 w v l) (hl : l.length ≤ 8796093022208) (hsz : ∀ s ∈ l, s.size ≤ 140737488351232) :
    Calls Try.prog 3 #[.string k, .string a, .string b, v] w fun e w' => e = .returned (.bool true) ∧ Below w.heap.size w w' := by
  have HS := Lib.hid hs; have HZ := Lib.hid hsz; clear hsz
  obtain ⟨ao, cap, rfl, hcap, hcm, _, _⟩ := hs
  by_cases hbig : 60 < l.length
  · have hd : decide (60 < l.length) = true := decide_eq_true hbig
    have hd' : decide ((60 : Int) < (l.length : Int)) = true := decide_eq_true (by omega)
    go_enter Try.func3, Try.ntmps3
    go_wp2_with (go_at_call 15; refine (awake_any _).mono ?_; rintro e w3 ⟨rfl, hb3⟩)
    go_ret
    exact ⟨rfl, hb3⟩
  · have hd : decide (60 < l.length) = false := decide_eq_false hbig
    have hd' : decide ((60 : Int) < (l.length : Int)) = false := decide_eq_false (by omega)
    obtain ⟨ck, hck⟩ : ∃ ck, ck = checkE k := ⟨_, rfl⟩
    have HCK := Lib.hid hck
    obtain ⟨ib, hib⟩ : ∃ ib, ib = inL k.data.toList a.data.toList b.data.toList := ⟨_, rfl⟩
    have HIB := Lib.hid hib
    obtain ⟨nx', hnx⟩ : ∃ nx' : ByteArray, nx' = ⟨(nextL k.data.toList).toArray⟩ := ⟨_, rfl⟩
    have HNX := Lib.hid hnx
    have hii : (ib == ib) = true := by cases ib <;> rfl
    clear hck hib hnx
    go_enter Try.func3, Try.ntmps3
    go_wp2_with fail
    refine (check_any k _).mono ?_
    rintro e w1 ⟨rfl, rfl⟩
    rw [← HCK.out]
    go_wp2_with fail
    refine (rcheck_any k _).mono ?_
    rintro e w1 ⟨rfl, rfl⟩
    rw [← HCK.out]
    go_wp2_with fail
    refine (in_any k a b _).mono ?_
    rintro e w1 ⟨rfl, rfl⟩
    rw [← HIB.out]
    go_wp2_with fail
    refine (rin_any k a b _).mono ?_
    rintro e w1 ⟨rfl, rfl⟩
    rw [← HIB.out]
    go_wp2_with fail
    refine (next_any k _ (by omega)).mono ?_
    rintro e w1 ⟨rfl, hb1⟩
    rw [← HNX.out]
    have HB1 := Lib.hid hb1; clear hb1
    go_wp2_with fail
    refine (rnext_any k _ (by omega)).mono ?_
    rintro e w2 ⟨rfl, hb2⟩
    rw [← HNX.out]
    have HB2 := Lib.hid (HB1.out.trans (hb2.mono HB1.out.size)); clear hb2
    go_wp2_with fail
    refine (sorted_any _ l _ (HS.out.below HB2.out)).mono ?_
    rintro e w3 ⟨b3, rfl, hu3, hb3⟩
    have HU3 := Lib.hid hu3
    have HB3 := Lib.hid (HB2.out.trans (hb3.mono HB2.out.size)); clear hb3 hu3
    go_wp2_with fail
    refine (rsorted_any _ l _ (HS.out.below HB3.out)).mono ?_
    rintro e w4 ⟨b4, rfl, hu4, hb4⟩
    obtain rfl : b3 = b4 := by
      have h3 := HU3.out
      cases b3 <;> cases b4 <;> simp_all
    have h33 : (b3 == b3) = true := by cases b3 <;> rfl
    have HB4 := Lib.hid (HB3.out.trans (hb4.mono HB3.out.size)); clear hb4 hu4
    go_wp2_with fail
    refine (set_any _ l _ (HS.out.below HB4.out) hl HZ.out).mono ?_
    rintro e w5 ⟨g5, c5, ys, rfl, hset5, _, hown5, hb5⟩
    have HSET := Lib.hid hset5
    have HS5 := Lib.hid (SliceOf.own (enc := strE) hown5 (fun _ _ => rfl))
    have HB5 := Lib.hid (HB4.out.trans (hb5.mono HB4.out.size)); clear hb5 hset5 hown5
    go_wp2_with fail
    refine (rset_any _ l _ (HS.out.below HB5.out) (by omega)).mono ?_
    rintro e w6 ⟨u6, zs, rfl, hset6, hown6, hb6⟩
    obtain rfl : zs = ys := hset6.uniq HSET.out
    have HS6 := Lib.hid (SliceOf.own (enc := strE) hown6 (fun _ _ => rfl))
    have HS56 := Lib.hid (HS5.out.below hb6)
    have HB6 := Lib.hid (HB5.out.trans (hb6.mono HB5.out.size)); clear hb6 hset6 hown6
    go_wp2_with fail
    refine (same_any _ _ zs _ HS56.out HS6.out).mono ?_
    rintro e w7 ⟨rfl, hb7⟩
    have HB7 := Lib.hid (HB6.out.trans (hb7.mono HB6.out.size)); clear hb7
    go_wp2_with (go_at_call 15; refine (awake_any _).mono ?_; rintro e w8 ⟨rfl, hb8⟩)
    go_ret
    exact ⟨rfl, HB7.out.trans (hb8.mono HB7.out.size)⟩
end Go.Proofs.Ytjiipmehgcnaeaa
