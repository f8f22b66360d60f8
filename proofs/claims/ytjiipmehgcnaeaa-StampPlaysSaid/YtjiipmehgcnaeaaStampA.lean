/- stamp.Next, catenaref19.Next, item.Last. Conditions: the numbers are of their kinds. -/
import Derived.Test.YtjiipmehgcnaeaaBoundE
namespace Go.Proofs.Ytjiipmehgcnaeaa
open Go.RowKit Go.PlainAid

def topT : Int := 18446744073709551615
def nxT (a f : Int) : Int × Int := if a = topT then (0, 16) else (if a + 1 < f then f else a + 1, 0)

set_option maxRecDepth 100000 in
set_option maxHeartbeats 800000 in
theorem snext_any (a f : Int) (w : World) (ha : 0 ≤ a) (ha1 : a ≤ topT) :
    Calls Try.prog 40 #[.int .u64 a, .int .u64 f] w fun e w' => e = .returned (.tuple #[.int .u64 (nxT a f).1, .int .i64 (nxT a f).2]) ∧ w = w' := by
  unfold nxT
  by_cases ht : a = topT
  · rw [if_pos ht]
    subst ht
    unfold topT
    clear ha ha1
    go_enter Try.func40, Try.ntmps40
    go_wp2
    go_ret2
    exact ⟨rfl, rfl⟩
  · rw [if_neg ht]
    have hw : IntKind.u64.wrap (a + 1) = a + 1 := by unfold topT at ha1 ht; simp [IntKind.wrap, IntKind.bits, IntKind.signed]; omega
    have hne : (a == 18446744073709551615) = false := by unfold topT at ht; simpa using ht
    have hne' : ¬ a = 18446744073709551615 := ht
    clear ht ha1
    rcases Int.lt_trichotomy (a + 1) f with h | rfl | h
    · rw [if_pos h]
      go_enter Try.func40, Try.ntmps40
      go_wp2
      all_goals go_ret2
      all_goals exact ⟨rfl, rfl⟩
    · rw [if_neg (by omega)]
      go_enter Try.func40, Try.ntmps40
      go_wp2
      all_goals go_ret2
      all_goals exact ⟨rfl, rfl⟩
    · rw [if_neg (by omega)]
      go_enter Try.func40, Try.ntmps40
      go_wp2
      all_goals go_ret2
      all_goals exact ⟨rfl, rfl⟩
set_option maxRecDepth 100000 in
set_option maxHeartbeats 800000 in
theorem rsnext_any (a f : Int) (w : World) (ha : 0 ≤ a) (ha1 : a ≤ topT) :
    Calls Try.prog 41 #[.int .u64 a, .int .u64 f] w fun e w' => e = .returned (.tuple #[.int .u64 (nxT a f).1, .int .i64 (nxT a f).2]) ∧ w = w' := by
  unfold nxT
  by_cases ht : a = topT
  · rw [if_pos ht]
    subst ht
    unfold topT
    clear ha ha1
    go_enter Try.func41, Try.ntmps41
    go_wp2
    go_ret2
    exact ⟨rfl, rfl⟩
  · rw [if_neg ht]
    have hw : IntKind.u64.wrap (a + 1) = a + 1 := by unfold topT at ha1 ht; simp [IntKind.wrap, IntKind.bits, IntKind.signed]; omega
    have hne : (a == 18446744073709551615) = false := by unfold topT at ht; simpa using ht
    have hne' : ¬ a = 18446744073709551615 := ht
    clear ht ha1
    rcases Int.lt_trichotomy (a + 1) f with h | rfl | h
    · rw [if_pos h]
      go_enter Try.func41, Try.ntmps41
      go_wp2
      all_goals go_ret2
      all_goals exact ⟨rfl, rfl⟩
    · rw [if_neg (by omega)]
      go_enter Try.func41, Try.ntmps41
      go_wp2
      all_goals go_ret2
      all_goals exact ⟨rfl, rfl⟩
    · rw [if_neg (by omega)]
      go_enter Try.func41, Try.ntmps41
      go_wp2
      all_goals go_ret2
      all_goals exact ⟨rfl, rfl⟩
set_option maxRecDepth 100000 in
set_option maxHeartbeats 1600000 in
theorem ilast_any (v : Value) (l : List EntT) (w : World) (hs : SliceOf entE 4 w v l) :
    Calls Try.prog 112 #[v] w fun e w' => e = .returned (.int .u64 (lastR l)) ∧ w = w' := by
  have HS := Lib.hid hs
  obtain ⟨ao, cap, rfl, hcap, hcm, _, hcell⟩ := hs
  have hle := stN_le l
  obtain ⟨n, hn⟩ : ∃ n, stN l = n := ⟨_, rfl⟩
  have HNn := Lib.hid hn
  rw [hn] at hle
  by_cases h0 : n = 0
  · have hb : ((n : Int) == 0) = true := beq_iff_eq.2 (by omega)
    have HZ : Hid (lastR l = 0) := Lib.hid (by unfold lastR; rw [if_pos (by omega)])
    clear h0 hn hcell
    go_enter Try.func112, Try.ntmps112
    go_wp2_with fail
    refine (stamped_any _ l _ HS.out).mono ?_
    rintro e w1 ⟨rfl, rfl⟩
    rw [HNn.out]
    go_wp2
    go_ret
    exact ⟨ret_int HZ.out.symm, rfl⟩
  · have hb : ((n : Int) == 0) = false := beq_eq_false_iff_ne.2 (by omega)
    obtain ⟨j, hj⟩ : ∃ j, n - 1 = j := ⟨_, rfl⟩
    have hjl : j < l.length := by omega
    obtain ⟨bb, oo, he, hh⟩ := hcell j hjl
    subst he
    have p3 := (Cells4.of hh).2.2.2
    have HZ : Hid (lastR l = (l[j]).ts) := Lib.hid (by unfold lastR; rw [if_neg (by omega), HNn.out, hj, tsAt_get hjl])
    have hsub : IntKind.i64.wrap ((n : Int) - 1) = (j : Int) := by rw [show (n : Int) - 1 = (j : Int) by omega]; exact IntWalk.i64_in _ ⟨by omega, by omega⟩
    obtain ⟨t, ht⟩ : ∃ t, t = (l[j]).ts := ⟨_, rfl⟩
    rw [← ht] at p3 HZ
    clear h0 hn hcell hh hj ht
    go_enter Try.func112, Try.ntmps112
    go_wp2_with fail
    refine (stamped_any _ l _ HS.out).mono ?_
    rintro e w1 ⟨rfl, rfl⟩
    rw [HNn.out]
    go_wp2
    go_ret
    exact ⟨ret_int HZ.out.symm, rfl⟩
end Go.Proofs.Ytjiipmehgcnaeaa
