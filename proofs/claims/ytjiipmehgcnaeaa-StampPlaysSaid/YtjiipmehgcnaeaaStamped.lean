/- How many entries have timestamps, the program's and the document's own; how much a list holds. Conditions: none. -/
import Derived.Test.YtjiipmehgcnaeaaEntry
namespace Go.Proofs.Ytjiipmehgcnaeaa
open Go.RowKit Go.PlainAid

def tsAt (l : List EntT) (i : Nat) : Int := (l.getD i default).ts
theorem tsAt_get {l : List EntT} {i : Nat} (h : i < l.length) : tsAt l i = l[i].ts := by
  simp [tsAt, List.getD, List.getElem?_eq_getElem h]
def stN (l : List EntT) : Nat := (l.takeWhile fun e => decide (e.ts ≠ 0)).length
theorem stN_le (l : List EntT) : stN l ≤ l.length := by
  unfold stN; exact (List.takeWhile_sublist _).length_le
theorem stN_of : ∀ (l : List EntT) (i : Nat), i ≤ l.length → (∀ j, j < i → tsAt l j ≠ 0) → (i < l.length → tsAt l i = 0) → stN l = i
  | [], i, hi, _, _ => by simp at hi; subst hi; rfl
  | e :: l, 0, _, _, h => by
    have h0 := h (by simp)
    have h1 : e.ts = 0 := h0
    simp [stN, h1]
  | e :: l, i + 1, hi, hb, h => by
    have h0 : e.ts ≠ 0 := hb 0 (by omega)
    have ih := stN_of l i (by simpa using hi) (fun j hj => hb (j + 1) (by omega)) (fun hl => h (by simpa using hl))
    unfold stN at ih ⊢
    rw [List.takeWhile_cons, if_pos (by simpa using h0), List.length_cons, ih]

set_option maxRecDepth 100000 in
set_option maxHeartbeats 800000 in
theorem stamped_any (v : Value) (l : List EntT) (w : World) (hs : SliceOf entE 4 w v l) :
    Calls Try.prog 94 #[v] w fun e w' => e = .returned (.int .i64 (stN l : Nat)) ∧ w = w' := by
  obtain ⟨ao, cap, rfl, hcap, hcm, _, hcell⟩ := hs
  have HC := Lib.hid hcell; clear hcell
  go_enter Try.func94, Try.ntmps94
  go_wp2
  go_loopg [3] (l.length + 1) (fun g s3 wr => ∃ i : Nat, s3 = .int .i64 i ∧ i ≤ l.length ∧ l.length + 1 ≤ i + g ∧ Hid (∀ j, j < i → tsAt l j ≠ 0) ∧ w = wr)
  case atStart => exact ⟨0, rfl, by omega, by omega, Lib.hid (fun j hj => absurd hj (by omega)), rfl⟩
  case round =>
    obtain ⟨i, rfl, hi, hg, hall, rfl⟩ := hrel
    by_cases hlt : i < l.length
    · obtain ⟨b, off, rfl, hr⟩ := HC.out i hlt
      have k3 : w.cell? ⟨b, off + i * 4 + 3, none⟩ = some (.int .u64 l[i].ts) := hr 3 _ rfl
      rw [← tsAt_get hlt] at k3
      clear hr
      obtain ⟨t, ht⟩ : ∃ t, t = tsAt l i := ⟨_, rfl⟩
      rw [← ht] at k3
      have HT := Lib.hid ht
      clear ht
      by_cases h0 : t = 0
      · subst h0
        have HR : Hid (stN l = i) := Lib.hid (stN_of l i hi hall.out (fun _ => HT.out.symm))
        clear HT
        go_wp2
        go_ret
        exact ⟨ret_int (by have := HR.out; omega), rfl⟩
      · have hne : (t != 0) = true := by simpa using h0
        have HA : Hid (∀ j, j < i + 1 → tsAt l j ≠ 0) := Lib.hid (fun j hj => by
          by_cases e : j = i
          · subst e; rw [← HT.out]; exact h0
          · exact hall.out j (by omega))
        clear h0 HT
        go_wp2
        go_roundg (gk - 1)
        case rel => exact ⟨i + 1, by go_num, by omega, by omega, HA.out, rfl⟩
        case measure => omega
    · have HR : Hid (stN l = i) := Lib.hid (stN_of l i hi hall.out (fun h => absurd h hlt))
      go_wp2
      go_ret
      exact ⟨ret_int (by have := HR.out; omega), rfl⟩
set_option maxRecDepth 100000 in
set_option maxHeartbeats 800000 in
theorem rstamped_any (v : Value) (l : List EntT) (w : World) (hs : SliceOf entE 4 w v l) :
    Calls Try.prog 49 #[v] w fun e w' => e = .returned (.int .i64 (stN l : Nat)) ∧ w = w' := by
  obtain ⟨ao, cap, rfl, hcap, hcm, _, hcell⟩ := hs
  have HC := Lib.hid hcell; clear hcell
  go_enter Try.func49, Try.ntmps49
  go_wp2
  go_loopg [3] (l.length + 1) (fun g s3 wr => ∃ i : Nat, s3 = .int .i64 i ∧ i ≤ l.length ∧ l.length + 1 ≤ i + g ∧ Hid (∀ j, j < i → tsAt l j ≠ 0) ∧ w = wr)
  case atStart => exact ⟨0, rfl, by omega, by omega, Lib.hid (fun j hj => absurd hj (by omega)), rfl⟩
  case round =>
    obtain ⟨i, rfl, hi, hg, hall, rfl⟩ := hrel
    by_cases hlt : i < l.length
    · obtain ⟨b, off, rfl, hr⟩ := HC.out i hlt
      have k3 : w.cell? ⟨b, off + i * 4 + 3, none⟩ = some (.int .u64 l[i].ts) := hr 3 _ rfl
      rw [← tsAt_get hlt] at k3
      clear hr
      obtain ⟨t, ht⟩ : ∃ t, t = tsAt l i := ⟨_, rfl⟩
      rw [← ht] at k3
      have HT := Lib.hid ht
      clear ht
      by_cases h0 : t = 0
      · subst h0
        have HR : Hid (stN l = i) := Lib.hid (stN_of l i hi hall.out (fun _ => HT.out.symm))
        clear HT
        go_wp2
        go_ret
        exact ⟨ret_int (by have := HR.out; omega), rfl⟩
      · have hne : (t == 0) = false := by simpa using h0
        have HA : Hid (∀ j, j < i + 1 → tsAt l j ≠ 0) := Lib.hid (fun j hj => by
          by_cases e : j = i
          · subst e; rw [← HT.out]; exact h0
          · exact hall.out j (by omega))
        clear h0 HT
        go_wp2
        go_roundg (gk - 1)
        case rel => exact ⟨i + 1, by go_num, by omega, by omega, HA.out, rfl⟩
        case measure => omega
    · have HR : Hid (stN l = i) := Lib.hid (stN_of l i hi hall.out (fun h => absurd h hlt))
      go_wp2
      go_ret
      exact ⟨ret_int (by have := HR.out; omega), rfl⟩

/-- Some number. -/
def SomeNum (w : World) (e : Ending) (w' : World) : Prop := ∃ n : Int, e = .returned (.int .i64 n) ∧ w = w'
set_option maxRecDepth 100000 in
set_option maxHeartbeats 800000 in
/-- How much a list holds: some number. -/
theorem much_any (v : Value) (l : List EntT) (w : World) (hs : SliceOf entE 4 w v l) (hok : ∀ e ∈ l, EntOk w e) :
    Calls Try.prog 38 #[v] w (SomeNum w) := by
  obtain ⟨ao, cap, rfl, hcap, hcm, _, hcell⟩ := hs
  have HC := Lib.hid hcell; have HO := Lib.hid hok; clear hcell hok
  go_enter Try.func38, Try.ntmps38
  go_wp2
  go_loopg [3, 4] 201 (fun g s3 s4 wr => ∃ (i : Nat) (n : Int), s4 = .int .i64 i ∧ s3 = .int .i64 n ∧ i ≤ l.length ∧ i ≤ 200 ∧ 201 ≤ i + g ∧ w = wr)
  case atStart => exact ⟨0, _, rfl, rfl, by omega, by omega, by omega, rfl⟩
  case round =>
    obtain ⟨i, n, rfl, rfl, hi, hi2, hg, rfl⟩ := hrel
    by_cases hlt : i < l.length
    · by_cases h200 : i < 200
      · obtain ⟨b, off, rfl, hr⟩ := HC.out i hlt
        obtain ⟨ao', cap', hv, _, _, _, _⟩ := (HO.out _ (List.getElem_mem hlt)).ops
        have k2 : w.cell? ⟨b, off + i * 4 + 2, none⟩ = some l[i].ops := hr 2 _ rfl
        rw [hv] at k2
        obtain ⟨m, hm⟩ : ∃ m, m = l[i].opl.length := ⟨_, rfl⟩
        rw [← hm] at k2
        clear hr hv hm
        go_wp2
        go_roundg (gk - 1)
        case rel => exact ⟨i + 1, _, by go_num, rfl, by omega, by omega, by omega, rfl⟩
        case measure => omega
      · go_wp2
        go_ret
        exact ⟨_, rfl, rfl⟩
    · go_wp2
      go_ret
      exact ⟨_, rfl, rfl⟩
end Go.Proofs.Ytjiipmehgcnaeaa
