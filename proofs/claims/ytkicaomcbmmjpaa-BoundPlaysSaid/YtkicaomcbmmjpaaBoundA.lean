/- Package bound, and the document's own: Check, Latest, Mark. Conditions: none. -/
import Derived.Test.YtkicaomcbmmjpaaStamped
import Derived.Laws.StructEq
namespace Go.Proofs.Ytkicaomcbmmjpaa
open Go.RowKit Go.PlainAid

def U64 (n : Int) : Prop := 0 ≤ n ∧ n < 18446744073709551616
def chkR (t m h : Int) : Int := if m < t then 12 else if t < h then 13 else 0
theorem eq_bounds (a b c d : Int) (w : World) : (binOp .eql 85 (.agg #[.int .u64 a, .int .u64 b]) (.agg #[.int .u64 c, .int .u64 d])).run Try.prog w = .ok (.bool (a == c && b == d)) w := by
  have u := Try.underlying23
  have hS : Try.prog.underlying 85 = some (.struct (Try.prog.fieldsOf 85)) := by kernel_rfl
  have hp : Try.prog.stoodInHeld 85 = false := by kernel_rfl
  have hf : (Try.prog.fieldsOf 85).toList.map (fun f => (f.offset, f.type)) = [(0, 23), (1, 23)] := by kernel_rfl
  rw [run_eql_struct, show (10000 : Nat) = 9999 + 1 from rfl, run_equalIn_agg w 9999 85 _ _ hS hp]
  simp only [Program.fieldsOf, Try.underlying85]
  go_simp
  by_cases h1 : a = c <;> by_cases h2 : b = d <;> simp [h1, h2]

set_option maxRecDepth 100000 in
set_option maxHeartbeats 800000 in
theorem bcheck_any (t m h : Int) (w : World) :
    Calls Try.prog 45 #[.agg #[.int .u64 m, .int .u64 h], .int .u64 t] w fun e w' => e = .returned (.int .i64 (chkR t m h)) ∧ Below w.heap.size w w' := by
  have he := eq_bounds m h t t
  have hB : Hid (Below w.heap.size w (w.alloc (.cells #[.int .u64 m, .int .u64 h] 85))) := Lib.hid ((Below.refl _ _).alloc (Nat.le_refl _) _)
  by_cases h1 : m < t
  · have hb : (m == t) = false := by simp; omega
    have HR : Hid (chkR t m h = 12) := Lib.hid (by unfold chkR; rw [if_pos h1])
    go_enter Try.func45, Try.ntmps45
    go_wp2
    go_ret
    exact ⟨ret_int HR.out.symm, hB.out⟩
  · by_cases h2 : t < h
    · have hb : (h == t) = false := by simp; omega
      have HR : Hid (chkR t m h = 13) := Lib.hid (by unfold chkR; rw [if_neg h1, if_pos h2])
      go_enter Try.func45, Try.ntmps45
      go_wp2
      go_ret
      exact ⟨ret_int HR.out.symm, hB.out⟩
    · have HR : Hid (chkR t m h = 0) := Lib.hid (by unfold chkR; rw [if_neg h1, if_neg h2])
      by_cases h3 : m = t ∧ h = t
      · obtain ⟨rfl, rfl⟩ := h3
        go_enter Try.func45, Try.ntmps45
        go_wp2
        go_ret
        exact ⟨ret_int HR.out.symm, hB.out⟩
      · have hb : (m == t && h == t) = false := by
          cases hx : (m == t && h == t) with
          | false => rfl
          | true => simp at hx; exact absurd hx h3
        rw [hb] at he
        clear h3 hb
        go_enter Try.func45, Try.ntmps45
        go_wp2
        go_ret
        exact ⟨ret_int HR.out.symm, hB.out⟩
set_option maxRecDepth 100000 in
set_option maxHeartbeats 800000 in
theorem check_any (t m h : Int) (w : World) :
    Calls Try.prog 17 #[.int .u64 t, .int .u64 m, .int .u64 h] w fun e w' => e = .returned (.int .i64 (chkR t m h)) ∧ Below w.heap.size w w' := by
  go_enter Try.func17, Try.ntmps17
  go_wp2_with fail
  refine (bcheck_any t m h _).mono ?_
  rintro e w1 ⟨rfl, hb⟩
  have HB := Lib.hid hb; clear hb
  go_wp2
  go_ret
  exact ⟨rfl, HB.out⟩
set_option maxRecDepth 100000 in
set_option maxHeartbeats 800000 in
theorem rcheck_any (t m h : Int) (w : World) :
    Calls Try.prog 18 #[.int .u64 t, .int .u64 m, .int .u64 h] w fun e w' => e = .returned (.int .i64 (chkR t m h)) ∧ w = w' := by
  by_cases h1 : m < t
  · have HR : Hid (chkR t m h = 12) := Lib.hid (by unfold chkR; rw [if_pos h1])
    go_enter Try.func18, Try.ntmps18
    go_wp2
    go_ret
    exact ⟨ret_int HR.out.symm, rfl⟩
  · by_cases h2 : t < h
    · have HR : Hid (chkR t m h = 13) := Lib.hid (by unfold chkR; rw [if_neg h1, if_pos h2])
      go_enter Try.func18, Try.ntmps18
      go_wp2
      go_ret
      exact ⟨ret_int HR.out.symm, rfl⟩
    · have HR : Hid (chkR t m h = 0) := Lib.hid (by unfold chkR; rw [if_neg h1, if_neg h2])
      go_enter Try.func18, Try.ntmps18
      go_wp2
      go_ret
      exact ⟨ret_int HR.out.symm, rfl⟩
def latR (m h : Int) : Int × Int := if chkR m m h = 0 then (m, 0) else (0, chkR m m h)
def latV (r : Int × Int) : Value := .tuple #[.int .u64 r.1, .int .i64 r.2]
set_option maxRecDepth 100000 in
set_option maxHeartbeats 800000 in
theorem latest_any (m h : Int) (w : World) :
    Calls Try.prog 13 #[.int .u64 m, .int .u64 h] w fun e w' => e = .returned (latV (latR m h)) ∧ Below w.heap.size w w' := by
  obtain ⟨c, hc⟩ : ∃ c, c = chkR m m h := ⟨_, rfl⟩
  have HC := Lib.hid hc
  by_cases h0 : c = 0
  · have HR : Hid (latR m h = (m, 0)) := Lib.hid (by unfold latR; rw [← hc, if_pos h0])
    rw [HR.out]
    clear hc
    subst h0
    go_enter Try.func13, Try.ntmps13
    go_wp2_with fail
    refine (check_any m m h _).mono ?_
    rintro e w1 ⟨rfl, hb⟩
    have HB := Lib.hid hb; clear hb
    rw [← HC.out]
    go_wp2
    go_ret2
    exact ⟨rfl, HB.out⟩
  · have HR : Hid (latR m h = (0, c)) := Lib.hid (by unfold latR; rw [← hc, if_neg h0])
    rw [HR.out]
    have hne : (c != 0) = true := by simpa using h0
    clear hc h0
    go_enter Try.func13, Try.ntmps13
    go_wp2_with fail
    refine (check_any m m h _).mono ?_
    rintro e w1 ⟨rfl, hb⟩
    have HB := Lib.hid hb; clear hb
    rw [← HC.out]
    go_wp2
    go_ret2
    exact ⟨rfl, HB.out⟩
set_option maxRecDepth 100000 in
set_option maxHeartbeats 800000 in
theorem rlatest_any (m h : Int) (w : World) :
    Calls Try.prog 14 #[.int .u64 m, .int .u64 h] w fun e w' => e = .returned (latV (latR m h)) ∧ w = w' := by
  obtain ⟨c, hc⟩ : ∃ c, c = chkR m m h := ⟨_, rfl⟩
  have HC := Lib.hid hc
  by_cases h0 : c = 0
  · have HR : Hid (latR m h = (m, 0)) := Lib.hid (by unfold latR; rw [← hc, if_pos h0])
    rw [HR.out]
    clear hc
    subst h0
    go_enter Try.func14, Try.ntmps14
    go_wp2_with fail
    refine (rcheck_any m m h _).mono ?_
    rintro e w1 ⟨rfl, rfl⟩
    rw [← HC.out]
    go_wp2
    go_ret2
    exact ⟨rfl, rfl⟩
  · have HR : Hid (latR m h = (0, c)) := Lib.hid (by unfold latR; rw [← hc, if_neg h0])
    rw [HR.out]
    have hne : (c != 0) = true := by simpa using h0
    clear hc h0
    go_enter Try.func14, Try.ntmps14
    go_wp2_with fail
    refine (rcheck_any m m h _).mono ?_
    rintro e w1 ⟨rfl, rfl⟩
    rw [← HC.out]
    go_wp2
    go_ret2
    exact ⟨rfl, rfl⟩
/-- The timestamp of the last entry that is known to be stable. -/
def markR (l : List EntT) (s : Int) : Int := if min s (stN l) < 1 then 0 else tsAt l (min s (stN l) - 1).toNat
set_option maxRecDepth 100000 in
set_option maxHeartbeats 800000 in
theorem mark_any (v : Value) (l : List EntT) (s : Int) (w : World) (hs : SliceOf entE 4 w v l) (h0 : -9223372036854775808 ≤ s) (h1 : s ≤ 9223372036854775807) :
    Calls Try.prog 15 #[v, .int .i64 s] w fun e w' => e = .returned (.int .u64 (markR l s)) ∧ w = w' := by
  have HS := Lib.hid hs
  obtain ⟨ao, cap, rfl, hcap, hcm, _, hcell⟩ := hs
  have HC := Lib.hid hcell; clear hcell
  have hle := stN_le l
  obtain ⟨n, hn⟩ : ∃ n, n = stN l := ⟨_, rfl⟩
  have HN := Lib.hid hn
  obtain ⟨m, hm⟩ : ∃ m : Int, m = min s (n : Int) := ⟨_, rfl⟩
  have hmc : (¬ (n : Int) < s ∧ m = s) ∨ ((n : Int) < s ∧ m = n) := by omega
  have hR : markR l s = if m < 1 then 0 else tsAt l (m - 1).toNat := by unfold markR; rw [← hn, hm]
  have HR := Lib.hid hR
  rw [← hn] at hle
  clear hn hm hR
  rcases hmc with ⟨hlt, rfl⟩ | ⟨hlt, rfl⟩
  · by_cases hm1 : m < 1
    · have HV : Hid (markR l m = 0) := Lib.hid (by rw [HR.out, if_pos hm1])
      go_enter Try.func15, Try.ntmps15
      go_wp2_with fail
      refine (stamped_any _ l _ HS.out).mono ?_
      rintro e w1 ⟨rfl, rfl⟩
      rw [← HN.out]
      go_wp2
      go_ret
      exact ⟨ret_int HV.out.symm, rfl⟩
    · obtain ⟨q, hq⟩ : ∃ q : Nat, m = (q : Int) + 1 := ⟨(m - 1).toNat, by omega⟩
      subst hq
      have hql : q < l.length := by omega
      clear h0 h1
      have HV : Hid (markR l ((q : Int) + 1) = tsAt l q) := Lib.hid (by rw [HR.out, if_neg hm1]; congr 1; omega)
      obtain ⟨b, off, rfl, hr⟩ := HC.out q hql
      have k3 : w.cell? ⟨b, off + q * 4 + 3, none⟩ = some (.int .u64 l[q].ts) := hr 3 _ rfl
      rw [← tsAt_get hql] at k3
      clear hr
      go_enter Try.func15, Try.ntmps15
      go_wp2_with fail
      refine (stamped_any _ l _ HS.out).mono ?_
      rintro e w1 ⟨rfl, rfl⟩
      rw [← HN.out]
      go_wp2
      go_ret
      exact ⟨ret_int HV.out.symm, rfl⟩
  · by_cases hm1 : (n : Int) < 1
    · have HV : Hid (markR l s = 0) := Lib.hid (by rw [HR.out, if_pos hm1])
      go_enter Try.func15, Try.ntmps15
      go_wp2_with fail
      refine (stamped_any _ l _ HS.out).mono ?_
      rintro e w1 ⟨rfl, rfl⟩
      rw [← HN.out]
      go_wp2
      go_ret
      exact ⟨ret_int HV.out.symm, rfl⟩
    · obtain ⟨q, hq⟩ : ∃ q : Nat, n = q + 1 := ⟨n - 1, by omega⟩
      subst hq
      have hql : q < l.length := by omega
      have hlt2 : (q : Int) + 1 < s := by omega
      clear hlt
      have HV : Hid (markR l s = tsAt l q) := Lib.hid (by rw [HR.out, if_neg hm1]; congr 1; omega)
      obtain ⟨b, off, rfl, hr⟩ := HC.out q hql
      have k3 : w.cell? ⟨b, off + q * 4 + 3, none⟩ = some (.int .u64 l[q].ts) := hr 3 _ rfl
      rw [← tsAt_get hql] at k3
      clear hr
      go_enter Try.func15, Try.ntmps15
      go_wp2_with fail
      refine (stamped_any _ l _ HS.out).mono ?_
      rintro e w1 ⟨rfl, rfl⟩
      rw [← HN.out]
      go_wp2
      go_ret
      exact ⟨ret_int HV.out.symm, rfl⟩
set_option maxRecDepth 100000 in
set_option maxHeartbeats 800000 in
theorem rmark_any (v : Value) (l : List EntT) (s : Int) (w : World) (hs : SliceOf entE 4 w v l) (h0 : -9223372036854775808 ≤ s) (h1 : s ≤ 9223372036854775807) :
    Calls Try.prog 16 #[v, .int .i64 s] w fun e w' => e = .returned (.int .u64 (markR l s)) ∧ w = w' := by
  have HS := Lib.hid hs
  obtain ⟨ao, cap, rfl, hcap, hcm, _, hcell⟩ := hs
  have HC := Lib.hid hcell; clear hcell
  have hle := stN_le l
  obtain ⟨n, hn⟩ : ∃ n, n = stN l := ⟨_, rfl⟩
  have HN := Lib.hid hn
  obtain ⟨m, hm⟩ : ∃ m : Int, m = min s (n : Int) := ⟨_, rfl⟩
  have hmc : (¬ (n : Int) < s ∧ m = s) ∨ ((n : Int) < s ∧ m = n) := by omega
  have hR : markR l s = if m < 1 then 0 else tsAt l (m - 1).toNat := by unfold markR; rw [← hn, hm]
  have HR := Lib.hid hR
  rw [← hn] at hle
  clear hn hm hR
  rcases hmc with ⟨hlt, rfl⟩ | ⟨hlt, rfl⟩
  · by_cases hm1 : m < 1
    · have HV : Hid (markR l m = 0) := Lib.hid (by rw [HR.out, if_pos hm1])
      go_enter Try.func16, Try.ntmps16
      go_wp2_with fail
      refine (rstamped_any _ l _ HS.out).mono ?_
      rintro e w1 ⟨rfl, rfl⟩
      rw [← HN.out]
      go_wp2
      go_ret
      exact ⟨ret_int HV.out.symm, rfl⟩
    · obtain ⟨q, hq⟩ : ∃ q : Nat, m = (q : Int) + 1 := ⟨(m - 1).toNat, by omega⟩
      subst hq
      have hql : q < l.length := by omega
      clear h0 h1
      have HV : Hid (markR l ((q : Int) + 1) = tsAt l q) := Lib.hid (by rw [HR.out, if_neg hm1]; congr 1; omega)
      obtain ⟨b, off, rfl, hr⟩ := HC.out q hql
      have k3 : w.cell? ⟨b, off + q * 4 + 3, none⟩ = some (.int .u64 l[q].ts) := hr 3 _ rfl
      rw [← tsAt_get hql] at k3
      clear hr
      go_enter Try.func16, Try.ntmps16
      go_wp2_with fail
      refine (rstamped_any _ l _ HS.out).mono ?_
      rintro e w1 ⟨rfl, rfl⟩
      rw [← HN.out]
      go_wp2
      go_ret
      exact ⟨ret_int HV.out.symm, rfl⟩
  · by_cases hm1 : (n : Int) < 1
    · have HV : Hid (markR l s = 0) := Lib.hid (by rw [HR.out, if_pos hm1])
      go_enter Try.func16, Try.ntmps16
      go_wp2_with fail
      refine (rstamped_any _ l _ HS.out).mono ?_
      rintro e w1 ⟨rfl, rfl⟩
      rw [← HN.out]
      go_wp2
      go_ret
      exact ⟨ret_int HV.out.symm, rfl⟩
    · obtain ⟨q, hq⟩ : ∃ q : Nat, n = q + 1 := ⟨n - 1, by omega⟩
      subst hq
      have hql : q < l.length := by omega
      have hlt2 : (q : Int) + 1 < s := by omega
      clear hlt
      have HV : Hid (markR l s = tsAt l q) := Lib.hid (by rw [HR.out, if_neg hm1]; congr 1; omega)
      obtain ⟨b, off, rfl, hr⟩ := HC.out q hql
      have k3 : w.cell? ⟨b, off + q * 4 + 3, none⟩ = some (.int .u64 l[q].ts) := hr 3 _ rfl
      rw [← tsAt_get hql] at k3
      clear hr
      go_enter Try.func16, Try.ntmps16
      go_wp2_with fail
      refine (rstamped_any _ l _ HS.out).mono ?_
      rintro e w1 ⟨rfl, rfl⟩
      rw [← HN.out]
      go_wp2
      go_ret
      exact ⟨ret_int HV.out.symm, rfl⟩
end Go.Proofs.Ytkicaomcbmmjpaa
