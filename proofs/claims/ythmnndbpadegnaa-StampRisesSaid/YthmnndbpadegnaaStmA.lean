/- Package stamp, over the entries of a log: Stamped, Last, Next, catenaref19.Next. Conditions: the numbers are of their kinds. -/
import Derived.Test.YthmnndbpadegnaaRlgI
import Derived.BigQuiet
namespace Go.Proofs.Ythmnndbpadegnaa
open Go.RowKit Go.PlainAid

def tsAt (l : List EntT) (i : Nat) : Int := (l.getD i default).ts
theorem tsAt_get {l : List EntT} {i : Nat} (h : i < l.length) : tsAt l i = l[i].ts := by
  simp [tsAt, List.getD, List.getElem?_eq_getElem h]
theorem stN_of : ∀ (l : List EntT) (i : Nat), i ≤ l.length → (∀ j, j < i → tsAt l j ≠ 0) → (i < l.length → tsAt l i = 0) → stN l = i
  | [], i, hi, _, _ => by simp at hi; subst hi; rfl
  | e :: l, 0, _, _, h => by
    have h0 := h (by simp)
    have h1 : e.ts = 0 := h0
    simp [stN, h1]
  | e :: l, i + 1, hi, hb, h => by
    have h0 : e.ts ≠ 0 := hb 0 (by omega)
    have ih := stN_of l i (by simpa using hi) (fun j hj => hb (j + 1) (by omega)) (fun hl => h (by simpa using hl))
    unfold stN at ih ⊢
    rw [List.takeWhile_cons, if_pos (by simpa using h0), List.length_cons, ih]

set_option maxRecDepth 100000 in
set_option maxHeartbeats 800000 in
theorem stamped_any (v : Value) (l : List EntT) (w : World) (hs : SliceOf entE 4 w v l) :
    Calls Try.prog 80 #[v] w fun e w' => e = .returned (.int .i64 (stN l : Nat)) ∧ w = w' := by
  obtain ⟨ao, cap, rfl, hcap, hcm, _, hcell⟩ := hs
  have HC := Lib.hid hcell; clear hcell
  go_enter Try.func80, Try.ntmps80
  go_wp2
  go_loopg [3] (l.length + 1) (fun g s3 wr => ∃ i : Nat, s3 = .int .i64 i ∧ i ≤ l.length ∧ l.length + 1 ≤ i + g ∧ Hid (∀ j, j < i → tsAt l j ≠ 0) ∧ w = wr)
  case atStart => exact ⟨0, rfl, by omega, by omega, Lib.hid (fun j hj => absurd hj (by omega)), rfl⟩
  case round =>
    obtain ⟨i, rfl, hi, hg, hall, rfl⟩ := hrel
    by_cases hlt : i < l.length
    · obtain ⟨b, off, rfl, hr⟩ := HC.out i hlt
      have k3 : w.cell? ⟨b, off + i * 4 + 3, none⟩ = some (.int .u64 l[i].ts) := hr 3 _ rfl
      rw [← tsAt_get hlt] at k3
      clear hr
      obtain ⟨t, ht⟩ : ∃ t, t = tsAt l i := ⟨_, rfl⟩
      rw [← ht] at k3
      have HT := Lib.hid ht
      clear ht
      by_cases h0 : t = 0
      · subst h0
        have HR : Hid (stN l = i) := Lib.hid (stN_of l i hi hall.out (fun _ => HT.out.symm))
        clear HT
        go_wp2
        go_ret
        exact ⟨ret_int (by have := HR.out; omega), rfl⟩
      · have hne : (t != 0) = true := by simpa using h0
        have HA : Hid (∀ j, j < i + 1 → tsAt l j ≠ 0) := Lib.hid (fun j hj => by
          by_cases e : j = i
          · subst e; rw [← HT.out]; exact h0
          · exact hall.out j (by omega))
        clear h0 HT
        go_wp2
        go_roundg (gk - 1)
        case rel => exact ⟨i + 1, by go_num, by omega, by omega, HA.out, rfl⟩
        case measure => omega
    · have HR : Hid (stN l = i) := Lib.hid (stN_of l i hi hall.out (fun h => absurd h hlt))
      go_wp2
      go_ret
      exact ⟨ret_int (by have := HR.out; omega), rfl⟩
def Cells4 (w : World) (b o : Nat) (e : EntT) : Prop := w.cell? ⟨b, o, none⟩ = some (.int .i64 e.client) ∧ w.cell? ⟨b, o + 1, none⟩ = some (.int .i64 e.req) ∧ w.cell? ⟨b, o + 2, none⟩ = some e.ops ∧ w.cell? ⟨b, o + 3, none⟩ = some (.int .u64 e.ts)
theorem Cells4.of {w : World} {b o : Nat} {e : EntT} (h : w.rangeAt b o (entE e)) : Cells4 w b o e := ⟨by have := h 0 _ rfl; rwa [Nat.add_zero] at this, h 1 _ rfl, h 2 _ rfl, h 3 _ rfl⟩
abbrev lastR (l : List EntT) : Int := if stN l = 0 then 0 else tsAt l (stN l - 1)
def topT : Int := 18446744073709551615
def nxT (a f : Int) : Int × Int := if a = topT then (0, 16) else (if a + 1 < f then f else a + 1, 0)

set_option maxRecDepth 100000 in
set_option maxHeartbeats 800000 in
theorem snext_any (a f : Int) (w : World) (ha : 0 ≤ a) (ha1 : a ≤ topT) :
    Calls Try.prog 96 #[.int .u64 a, .int .u64 f] w fun e w' => e = .returned (.tuple #[.int .u64 (nxT a f).1, .int .i64 (nxT a f).2]) ∧ w = w' := by
  unfold nxT
  by_cases ht : a = topT
  · rw [if_pos ht]
    subst ht
    unfold topT
    clear ha ha1
    go_enter Try.func96, Try.ntmps96
    go_wp2
    go_ret2
    exact ⟨rfl, rfl⟩
  · rw [if_neg ht]
    have hw : IntKind.u64.wrap (a + 1) = a + 1 := by unfold topT at ha1 ht; simp [IntKind.wrap, IntKind.bits, IntKind.signed]; omega
    have hne : (a == 18446744073709551615) = false := by unfold topT at ht; simpa using ht
    have hne' : ¬ a = 18446744073709551615 := ht
    clear ht ha1
    rcases Int.lt_trichotomy (a + 1) f with h | rfl | h
    · rw [if_pos h]
      go_enter Try.func96, Try.ntmps96
      go_wp2
      all_goals go_ret2
      all_goals exact ⟨rfl, rfl⟩
    · rw [if_neg (by omega)]
      go_enter Try.func96, Try.ntmps96
      go_wp2
      all_goals go_ret2
      all_goals exact ⟨rfl, rfl⟩
    · rw [if_neg (by omega)]
      go_enter Try.func96, Try.ntmps96
      go_wp2
      all_goals go_ret2
      all_goals exact ⟨rfl, rfl⟩
-- left out here


































set_option maxRecDepth 100000 in
set_option maxHeartbeats 1600000 in
theorem ilast_any (v : Value) (l : List EntT) (w : World) (hs : SliceOf entE 4 w v l) :
    Calls Try.prog 90 #[v] w fun e w' => e = .returned (.int .u64 (lastR l)) ∧ w = w' := by
  have HS := Lib.hid hs
  obtain ⟨ao, cap, rfl, hcap, hcm, _, hcell⟩ := hs
  have hle := stN_le l
  obtain ⟨n, hn⟩ : ∃ n, stN l = n := ⟨_, rfl⟩
  have HNn := Lib.hid hn
  rw [hn] at hle
  by_cases h0 : n = 0
  · have hb : ((n : Int) == 0) = true := beq_iff_eq.2 (by omega)
    have HZ : Hid (lastR l = 0) := Lib.hid (by unfold lastR; rw [if_pos (by omega)])
    clear h0 hn hcell
    go_enter Try.func90, Try.ntmps90
    go_wp2_with fail
    refine (stamped_any _ l _ HS.out).mono ?_
    rintro e w1 ⟨rfl, rfl⟩
    rw [HNn.out]
    go_wp2
    go_ret
    exact ⟨ret_int HZ.out.symm, rfl⟩
  · have hb : ((n : Int) == 0) = false := beq_eq_false_iff_ne.2 (by omega)
    obtain ⟨j, hj⟩ : ∃ j, n - 1 = j := ⟨_, rfl⟩
    have hjl : j < l.length := by omega
    obtain ⟨bb, oo, he, hh⟩ := hcell j hjl
    subst he
    have p3 := (Cells4.of hh).2.2.2
    have HZ : Hid (lastR l = (l[j]).ts) := Lib.hid (by unfold lastR; rw [if_neg (by omega), HNn.out, hj, tsAt_get hjl])
    have hsub : IntKind.i64.wrap ((n : Int) - 1) = (j : Int) := by rw [show (n : Int) - 1 = (j : Int) by omega]; exact IntWalk.i64_in _ ⟨by omega, by omega⟩
    obtain ⟨t, ht⟩ : ∃ t, t = (l[j]).ts := ⟨_, rfl⟩
    rw [← ht] at p3 HZ
    clear h0 hn hcell hh hj ht
    go_enter Try.func90, Try.ntmps90
    go_wp2_with fail
    refine (stamped_any _ l _ HS.out).mono ?_
    rintro e w1 ⟨rfl, rfl⟩
    rw [HNn.out]
    go_wp2
    go_ret
    exact ⟨ret_int HZ.out.symm, rfl⟩
end Go.Proofs.Ythmnndbpadegnaa
