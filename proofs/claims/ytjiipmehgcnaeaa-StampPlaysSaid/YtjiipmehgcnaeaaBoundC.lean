/- Package bound; a part of's own: Check, Latest, Mark. Conditions: none. -/
import Derived.Test.YtjiipmehgcnaeaaStamped
import Derived.Laws.StructEq
import Derived.Great.BuildSlice
namespace Go.Proofs.Ytjiipmehgcnaeaa
open Go.RowKit Go.PlainAid

def U64 (n : Int) : Prop := 0 ≤ n ∧ n < 18446744073709551616
def chkR (t m h : Int) : Int := if m < t then 12 else if t < h then 13 else 0
theorem eq_bounds (a b c d : Int) (w : World) : (binOp .eql 146 (.agg #[.int .u64 a, .int .u64 b]) (.agg #[.int .u64 c, .int .u64 d])).run Try.prog w = .ok (.bool (a == c && b == d)) w := by
  have u := Try.underlying48
  have hS : Try.prog.underlying 146 = some (.struct (Try.prog.fieldsOf 146)) := by kernel_rfl
  have hp : Try.prog.stoodInHeld 146 = false := by kernel_rfl
  have hf : (Try.prog.fieldsOf 146).toList.map (fun f => (f.offset, f.type)) = [(0, 48), (1, 48)] := by kernel_rfl
  rw [run_eql_struct, show (10000 : Nat) = 9999 + 1 from rfl, run_equalIn_agg w 9999 146 _ _ hS hp]
  simp only [Program.fieldsOf, Try.underlying146]
  go_simp
  by_cases h1 : a = c <;> by_cases h2 : b = d <;> simp [h1, h2]

set_option maxRecDepth 100000 in
set_option maxHeartbeats 800000 in
theorem bcheck_any (t m h : Int) (w : World) :
    Calls Try.prog 93 #[.agg #[.int .u64 m, .int .u64 h], .int .u64 t] w fun e w' => e = .returned (.int .i64 (chkR t m h)) ∧ Below w.heap.size w w' := by
  have he := eq_bounds m h t t
  have hB : Hid (Below w.heap.size w (w.alloc (.cells #[.int .u64 m, .int .u64 h] 146))) := Lib.hid ((Below.refl _ _).alloc (Nat.le_refl _) _)
  by_cases h1 : m < t
  · have hb : (m == t) = false := by simp; omega
    have HR : Hid (chkR t m h = 12) := Lib.hid (by unfold chkR; rw [if_pos h1])
    go_enter Try.func93, Try.ntmps93
    go_wp2
    go_ret
    exact ⟨ret_int HR.out.symm, hB.out⟩
  · by_cases h2 : t < h
    · have hb : (h == t) = false := by simp; omega
      have HR : Hid (chkR t m h = 13) := Lib.hid (by unfold chkR; rw [if_neg h1, if_pos h2])
      go_enter Try.func93, Try.ntmps93
      go_wp2
      go_ret
      exact ⟨ret_int HR.out.symm, hB.out⟩
    · have HR : Hid (chkR t m h = 0) := Lib.hid (by unfold chkR; rw [if_neg h1, if_neg h2])
      by_cases h3 : m = t ∧ h = t
      · obtain ⟨rfl, rfl⟩ := h3
        go_enter Try.func93, Try.ntmps93
        go_wp2
        go_ret
        exact ⟨ret_int HR.out.symm, hB.out⟩
      · have hb : (m == t && h == t) = false := by
          cases hx : (m == t && h == t) with
          | false => rfl
          | true => simp at hx; exact absurd hx h3
        rw [hb] at he
        clear h3 hb
        go_enter Try.func93, Try.ntmps93
        go_wp2
        go_ret
        exact ⟨ret_int HR.out.symm, hB.out⟩
set_option maxRecDepth 100000 in
set_option maxHeartbeats 800000 in
theorem check_any (t m h : Int) (w : World) :
    Calls Try.prog 51 #[.int .u64 t, .int .u64 m, .int .u64 h] w fun e w' => e = .returned (.int .i64 (chkR t m h)) ∧ Below w.heap.size w w' := by
  go_enter Try.func51, Try.ntmps51
  go_wp2_with fail
  refine (bcheck_any t m h _).mono ?_
  rintro e w1 ⟨rfl, hb⟩
  have HB := Lib.hid hb; clear hb
  go_wp2
  go_ret
  exact ⟨rfl, HB.out⟩
def markR (l : List EntT) (s : Int) : Int := if min s (stN l) < 1 then 0 else tsAt l (min s (stN l) - 1).toNat
set_option maxRecDepth 100000 in
set_option maxHeartbeats 800000 in
theorem mark_any (v : Value) (l : List EntT) (s : Int) (w : World) (hs : SliceOf entE 4 w v l) (h0 : -9223372036854775808 ≤ s) (h1 : s ≤ 9223372036854775807) :
    Calls Try.prog 53 #[v, .int .i64 s] w fun e w' => e = .returned (.int .u64 (markR l s)) ∧ w = w' := by
  have HS := Lib.hid hs
  obtain ⟨ao, cap, rfl, hcap, hcm, _, hcell⟩ := hs
  have HC := Lib.hid hcell; clear hcell
  have hle := stN_le l
  obtain ⟨n, hn⟩ : ∃ n, n = stN l := ⟨_, rfl⟩
  have HN := Lib.hid hn
  obtain ⟨m, hm⟩ : ∃ m : Int, m = min s (n : Int) := ⟨_, rfl⟩
  have hmc : (¬ (n : Int) < s ∧ m = s) ∨ ((n : Int) < s ∧ m = n) := by omega
  have hR : markR l s = if m < 1 then 0 else tsAt l (m - 1).toNat := by unfold markR; rw [← hn, hm]
  have HR := Lib.hid hR
  rw [← hn] at hle
  clear hn hm hR
  rcases hmc with ⟨hlt, rfl⟩ | ⟨hlt, rfl⟩
  · by_cases hm1 : m < 1
    · have HV : Hid (markR l m = 0) := Lib.hid (by rw [HR.out, if_pos hm1])
      go_enter Try.func53, Try.ntmps53
      go_wp2_with fail
      refine (stamped_any _ l _ HS.out).mono ?_
      rintro e w1 ⟨rfl, rfl⟩
      rw [← HN.out]
      go_wp2
      go_ret
      exact ⟨ret_int HV.out.symm, rfl⟩
    · obtain ⟨q, hq⟩ : ∃ q : Nat, m = (q : Int) + 1 := ⟨(m - 1).toNat, by omega⟩
      subst hq
      have hql : q < l.length := by omega
      clear h0 h1
      have HV : Hid (markR l ((q : Int) + 1) = tsAt l q) := Lib.hid (by rw [HR.out, if_neg hm1]; congr 1; omega)
      obtain ⟨b, off, rfl, hr⟩ := HC.out q hql
      have k3 : w.cell? ⟨b, off + q * 4 + 3, none⟩ = some (.int .u64 l[q].ts) := hr 3 _ rfl
      rw [← tsAt_get hql] at k3
      clear hr
      go_enter Try.func53, Try.ntmps53
      go_wp2_with fail
      refine (stamped_any _ l _ HS.out).mono ?_
      rintro e w1 ⟨rfl, rfl⟩
      rw [← HN.out]
      go_wp2
      go_ret
      exact ⟨ret_int HV.out.symm, rfl⟩
  · by_cases hm1 : (n : Int) < 1
    · have HV : Hid (markR l s = 0) := Lib.hid (by rw [HR.out, if_pos hm1])
      go_enter Try.func53, Try.ntmps53
      go_wp2_with fail
      refine (stamped_any _ l _ HS.out).mono ?_
      rintro e w1 ⟨rfl, rfl⟩
      rw [← HN.out]
      go_wp2
      go_ret
      exact ⟨ret_int HV.out.symm, rfl⟩
    · obtain ⟨q, hq⟩ : ∃ q : Nat, n = q + 1 := ⟨n - 1, by omega⟩
      subst hq
      have hql : q < l.length := by omega
      have hlt2 : (q : Int) + 1 < s := by omega
      clear hlt
      have HV : Hid (markR l s = tsAt l q) := Lib.hid (by rw [HR.out, if_neg hm1]; congr 1; omega)
      obtain ⟨b, off, rfl, hr⟩ := HC.out q hql
      have k3 : w.cell? ⟨b, off + q * 4 + 3, none⟩ = some (.int .u64 l[q].ts) := hr 3 _ rfl
      rw [← tsAt_get hql] at k3
      clear hr
      go_enter Try.func53, Try.ntmps53
      go_wp2_with fail
      refine (stamped_any _ l _ HS.out).mono ?_
      rintro e w1 ⟨rfl, rfl⟩
      rw [← HN.out]
      go_wp2
      go_ret
      exact ⟨ret_int HV.out.symm, rfl⟩
theorem built_rows {α : Type} {enc : α → List Value} {sz : Nat} {w : World} (T : TypeId) (l : List α) (hsz : ∀ y ∈ l, (enc y).length = sz) {n m : Nat} (hn : l.length = n) (hm : n ≤ 1000) (hw : w.heap.size = m) :
    SliceOf enc sz (w.alloc (.cells (l.flatMap enc).toArray T)) (.slice (some ⟨m, 0, none⟩) n n) l := by
  subst hn hw
  refine SliceOf.own (B := w.heap.size) (e := T) ?_ hsz
  have := row_built w (l.flatMap enc).toArray T sz l.length w.heap.size (Nat.le_refl _) (by simpa using flat_len l hsz) (by unfold maxLen; omega)
  simpa using this
def twoE : List EntT := [⟨0, 0, .slice none 0 0, [], 3⟩, ⟨0, 0, .slice none 0 0, [], 5⟩]

set_option maxRecDepth 100000 in
set_option maxHeartbeats 800000 in
theorem awake20 (w : World) :
    Calls Try.prog 52 #[] w fun e w' => e = .returned (.bool true) ∧ Below w.heap.size w w' := by
  have c1 : chkR 5 4 0 = 12 := by decide
  have c2 : chkR 3 4 4 = 13 := by decide
  have c3 : chkR 4 4 4 = 0 := by decide
  have c4 : markR twoE 1 = 3 := by decide
  have C1 := Lib.hid c1; have C2 := Lib.hid c2; have C3 := Lib.hid c3; have C4 := Lib.hid c4
  clear c1 c2 c3 c4
  go_enter Try.func52, Try.ntmps52
  go_wp2_with fail
  refine (check_any 5 4 0 _).mono ?_
  rintro e w1 ⟨rfl, hb1⟩
  rw [C1.out]
  have HB1 := Lib.hid hb1; clear hb1
  go_wp2_with fail
  refine (check_any 3 4 4 _).mono ?_
  rintro e w2 ⟨rfl, hb2⟩
  rw [C2.out]
  have HB2 := Lib.hid (HB1.out.trans (hb2.mono HB1.out.size)); clear hb2
  go_wp2_with fail
  refine (check_any 4 4 4 _).mono ?_
  rintro e w3 ⟨rfl, hb3⟩
  rw [C3.out]
  have HB3 := Lib.hid (HB2.out.trans (hb3.mono HB2.out.size)); clear hb3
  have HS : Hid (SliceOf entE 4 (w3.alloc (.cells #[.int .i64 0, .int .i64 0, .slice none 0 0, .int .u64 3, .int .i64 0, .int .i64 0, .slice none 0 0, .int .u64 5] 64)) (.slice (some ⟨w3.heap.size, 0, none⟩) 2 2) twoE) := Lib.hid (built_rows (enc := entE) (sz := 4) (w := w3) 64 twoE (fun _ _ => rfl) rfl (by decide) rfl)
  have HB4 : Hid (Below w.heap.size w (w3.alloc (.cells #[.int .i64 0, .int .i64 0, .slice none 0 0, .int .u64 3, .int .i64 0, .int .i64 0, .slice none 0 0, .int .u64 5] 64))) := Lib.hid (HB3.out.alloc HB3.out.size _)
  go_wp2_with fail
  refine (mark_any _ twoE 1 _ HS.out (by decide) (by decide)).mono ?_
  rintro e w4 ⟨rfl, rfl⟩
  rw [C4.out]
  go_wp2
  go_ret
  exact ⟨rfl, HB4.out⟩

end Go.Proofs.Ytjiipmehgcnaeaa
