/- Package varnum: what All answers for every text of at most 2^43 bytes. Conditions: that bound. -/
import Derived.Test.YtfjcmmfjacoodaaVarnumB
namespace Go.Proofs.Ytfjcmmfjacoodaa
open Go.RowKit Go.PlainAid

/-- All numbers from place a on, behind those of acc; at most f of them. -/
def allR (s : ByteArray) : Nat → Nat → List Int → List Int × Int
  | 0, _, acc => (acc, 0)
  | f + 1, a, acc => if s.size ≤ a then (acc, 0) else if (getR s a).2.2 = 0 then allR s f (getR s a).2.1.toNat (acc ++ [(getR s a).1]) else ([], (getR s a).2.2)
theorem allR_end {s : ByteArray} {f a : Nat} {acc : List Int} (h : s.size ≤ a) : allR s (f + 1) a acc = (acc, 0) := by rw [allR, if_pos h]
theorem allR_err {s : ByteArray} {f a : Nat} {acc : List Int} (h : ¬ s.size ≤ a) (he : ¬ (getR s a).2.2 = 0) : allR s (f + 1) a acc = ([], (getR s a).2.2) := by rw [allR, if_neg h, if_neg he]
theorem allR_step {s : ByteArray} {f a : Nat} {acc : List Int} (h : ¬ s.size ≤ a) (he : (getR s a).2.2 = 0) : allR s (f + 1) a acc = allR s f (getR s a).2.1.toNat (acc ++ [(getR s a).1]) := by rw [allR, if_neg h, if_pos he]
/-- What Get reads goes on, and stays in the text. -/
theorem getR_go (s : ByteArray) (a : Nat) (h : (getR s a).2.2 = 0) : (a : Int) < (getR s a).2.1 ∧ (getR s a).2.1 ≤ s.size ∧ 0 ≤ (getR s a).1 ∧ (getR s a).1 < 18446744073709551616 := by
  unfold getR at h ⊢
  have b0 := bt_nonneg s (a : Int).toNat
  have b1 := bt_le s (a : Int).toNat
  split
  · rename_i h1; rw [if_pos h1] at h; simp at h
  rename_i h1; rw [if_neg h1] at h
  split
  · rename_i h2; rw [if_pos h2] at h; simp at h
  rename_i h2; rw [if_neg h2] at h
  split
  · simp only; omega
  rename_i h3; rw [if_neg h3] at h
  split
  · rename_i h4; rw [if_pos h4] at h; simp at h
  rename_i h4; rw [if_neg h4] at h
  split
  · have hv := val_nonneg s ((a : Int).toNat + 1) (bt s (a : Int).toNat - 247).toNat
    have hv1 := val_lt s ((a : Int).toNat + 1) (bt s (a : Int).toNat - 247).toNat
    have : (256 : Nat) ^ (bt s (a : Int).toNat - 247).toNat ≤ 256 ^ 8 := Nat.pow_le_pow_right (by decide) (by omega)
    have e : ((256 : Int) ^ (bt s (a : Int).toNat - 247).toNat) = ((256 ^ (bt s (a : Int).toNat - 247).toNat : Nat) : Int) := by rw [Int.natCast_pow]; rfl
    have : (256 : Nat) ^ 8 = 18446744073709551616 := by decide
    simp only; omega
  · rename_i h5; rw [if_neg h5] at h; simp at h

theorem info_u64 : (Try.prog.info? 22).map (fun i => (i.zero, i.size, i.bytes)) = some (some (.int .u64 0), 1, 8) := by kernel_rfl
def us (l : List Int) : List Value := l.map (.int .u64)

def AllPost (B : Nat) (w : World) (r : List Int × Int) (e : Ending) (w' : World) : Prop :=
  ∃ v, e = .returned (.tuple #[v, .int .i64 r.2]) ∧ w'.ownsRow B 22 1 v r.1.length (us r.1) ∧ Below w.heap.size w w'

set_option maxRecDepth 100000 in
set_option maxHeartbeats 400000 in
theorem all_any (s : ByteArray) (w : World) (hs : s.size ≤ 8796093022208) :
    Calls Try.prog 9 #[.string s] w (AllPost w.heap.size w (allR s (s.size + 1) 0 [])) := by
  obtain ⟨i0, hi, hz0, hz1, hz2⟩ := info_parts info_u64
  go_enter Try.func9, Try.ntmps9
  go_wp2
  go_loopg [4, 5] (s.size + 1) (fun g s4 s5 wr => ∃ (a : Nat) (acc : List Int), s5 = .int .i64 a ∧ a ≤ s.size ∧ s.size + 1 ≤ a + g ∧ acc.length ≤ a ∧ wr.ownsRow w.heap.size 22 1 s4 acc.length (us acc) ∧ allR s (s.size + 1) 0 [] = allR s g a acc ∧ Below w.heap.size w wr)
  case atStart => exact ⟨0, [], rfl, by omega, by omega, by simp, World.ownsRow_nil _ _ _ _, rfl, Below.refl _ _⟩
  case round =>
    obtain ⟨a, acc, rfl, ha, hg, hacc, hown, hall, hbel⟩ := hrel
    have HO := Lib.hid hown; have HA := Lib.hid hall; have HB := Lib.hid hbel; have hsz := hbel.size
    clear hown hall hbel
    obtain ⟨k, rfl⟩ : ∃ k, gk = k + 1 := ⟨gk - 1, by omega⟩
    by_cases hlt : a < s.size
    · obtain ⟨n, to, f, hr⟩ : ∃ n to f, getR s a = (n, to, f) := ⟨_, _, _, rfl⟩
      have HR := Lib.hid hr
      by_cases hf : f = 0
      · obtain rfl : f = 0 := hf
        have hgo := getR_go s a (by rw [hr])
        rw [hr] at hgo
        obtain ⟨g1, g2, g3, g4⟩ := hgo
        simp only at g1 g2 g3 g4
        obtain ⟨t, rfl⟩ := Int.eq_ofNat_of_zero_le (show 0 ≤ to by omega)
        have hs2 := allR_step (f := k) (acc := acc) (show ¬ s.size ≤ a by omega) (by rw [hr])
        rw [hr] at hs2
        have HS := Lib.hid hs2
        have H4 := Lib.hid g4
        clear hr hs2 g4
        go_wp2_with fail
        refine (get_any _ _ _ (by omega)).mono ?_
        rintro e w2 ⟨rfl, rfl⟩
        rw [HR.out]
        dsimp only [getV]
        go_wp2_with (at_builtin; refine wpList_append_own _ rfl (.tmp 23) (.tmp 25) 28 rfl w.heap.size 22 i0 (.int .u64 0) 1 8 Try.underlying28 hi hz0 hz1 hz2 rfl (by decide) _ acc.length (us acc) rfl (HO.out.alloc _) ⟨wr.heap.size, 0, none⟩ 1 1 [.int .u64 n] rfl rfl (one_cell _ _ _) (by simp [Value.oneCell']) (by unfold maxLen; omega) (by omega) (by simp; omega) ?_; intro v3 w3 hown3 hgr3 _)
        have hown4 : w3.ownsRow w.heap.size 22 1 v3 (acc ++ [n]).length (us (acc ++ [n])) := by simpa [us] using hown3
        have hbel3 : Below w.heap.size w w3 := (HB.out.alloc hsz _).grown hgr3 (by simp; omega) (fun j hj => (HO.out.lt j hj).1)
        clear hown3
        go_roundg k
        case rel => exact ⟨t, acc ++ [n], rfl, by omega, by omega, by simp; omega, hown4, by rw [HA.out, HS.out]; rfl, hbel3⟩
        case measure => omega
      · have hfb : (f != 0) = true := by simp [hf]
        have HE := Lib.hid (show allR s (s.size + 1) 0 [] = ([], f) by rw [HA.out, allR_err (by omega) (by rw [hr]; exact hf), hr])
        clear hr hf
        go_wp2_with fail
        refine (get_any _ _ _ (by omega)).mono ?_
        rintro e w2 ⟨rfl, rfl⟩
        rw [HR.out]
        dsimp only [getV]
        go_wp2_with fail
        go_ret2
        exact ⟨_, by rw [HE.out]; rfl, by rw [HE.out]; exact World.ownsRow_nil _ _ _ _, HB.out⟩
    · have HE := Lib.hid (show allR s (s.size + 1) 0 [] = (acc, 0) by rw [HA.out, allR_end (by omega)])
      go_wp2_with fail
      go_ret2
      exact ⟨_, by rw [HE.out]; rfl, by rw [HE.out]; exact HO.out, HB.out⟩
end Go.Proofs.Ytfjcmmfjacoodaa
