/- Package keys and catenaref05: Sorted, Same; the law KeysSets. Conditions: the texts read as l, within the form's reach. -/
import Derived.Test.YtjiipmehgcnaeaaKeysD
namespace Go.Proofs.Ytjiipmehgcnaeaa
open Go.RowKit Go.PlainAid Go.WideMaps Go.Maps Go.Sort Go.Shelf

/-- l rises, each below the next one. -/
def Up (l : List ByteArray) : Prop := ∀ i (h : i + 1 < l.length), kb l[i] < kb l[i + 1]
theorem SetOf.up {a l : List ByteArray} (h : SetOf a l) : Up a := fun i hi => by
  have := List.pairwise_iff_getElem.1 h.1 i (i + 1) (by simp; omega) (by simpa using hi) (by omega)
  simpa using this
theorem SetOf.congr {a l m : List ByteArray} (h : SetOf a l) (hm : ∀ x, x ∈ l ↔ x ∈ m) : SetOf a m := ⟨h.1, fun x => by
  rw [h.2 x]; simp only [List.mem_map]
  constructor
  · rintro ⟨y, hy, rfl⟩; exact ⟨y, (hm y).1 hy, rfl⟩
  · rintro ⟨y, hy, rfl⟩; exact ⟨y, (hm y).2 hy, rfl⟩⟩
theorem SetOf.self {a l : List ByteArray} (h : SetOf a l) : SetOf a a := ⟨h.1, fun x => Iff.rfl⟩
theorem SetOf.mem {a l : List ByteArray} (h : SetOf a l) (s : ByteArray) : s ∈ a ↔ s ∈ l := by
  have := h.2 (kb s)
  have e : ∀ m : List ByteArray, kb s ∈ m.map kb ↔ s ∈ m := fun m => ⟨fun hm => by
    obtain ⟨y, hy, e⟩ := List.mem_map.1 hm
    rw [← kb_inj e]; exact hy, fun hm => List.mem_map_of_mem hm⟩
  rw [e, e] at this; exact this
theorem strAt {w : World} {ao : Option Addr} {n cap : Nat} {l : List ByteArray} (h : SliceOf strE 1 w (.slice ao n cap) l) (i : Nat) (hi : i < l.length) : ∃ b off, ao = some ⟨b, off, none⟩ ∧ w.cell? ⟨b, off + i, none⟩ = some (.string l[i]) := by
  obtain ⟨a', c', e1, _, _, _, hx⟩ := h
  obtain ⟨b, off, e2, hr⟩ := hx i hi
  simp only [Value.slice.injEq] at e1
  exact ⟨b, off, by rw [e1.1, e2], by simpa using hr 0 _ rfl⟩
set_option maxRecDepth 100000 in
set_option maxHeartbeats 800000 in
theorem sorted_any (u : Value) (l : List ByteArray) (w : World) (hu : SliceOf strE 1 w u l) :
    Calls Try.prog 22 #[u] w fun e w' => ∃ b, e = .returned (.bool b) ∧ (b = true ↔ Up l) ∧ Below w.heap.size w w' := by
  have HU := Lib.hid hu
  obtain ⟨ao, cap, rfl, hcap, hcm, _, _⟩ := hu
  go_enter Try.func22, Try.ntmps22
  go_wp2
  go_loopg [3] (l.length + 1) (fun g s3 wr => ∃ i : Nat, s3 = .int .i64 ((i : Int) + 1) ∧ i ≤ l.length ∧ l.length + 1 ≤ i + g ∧ Hid (∀ j (h : j + 1 < l.length), j < i → kb l[j] < kb l[j + 1]) ∧ Hid (SliceOf strE 1 wr (.slice ao l.length cap) l) ∧ Hid (Below w.heap.size w wr))
  case atStart => exact ⟨0, rfl, by omega, by omega, Lib.hid (fun j _ h => absurd h (by omega)), HU, Lib.hid (Below.refl _ _)⟩
  case round =>
    obtain ⟨i, rfl, hi, hg, HA, H1, HB⟩ := hrel
    by_cases hlt : i + 1 < l.length
    · obtain ⟨b, off, rfl, k1⟩ := strAt H1.out i (by omega)
      obtain ⟨b', off', e', k2⟩ := strAt H1.out (i + 1) hlt
      simp only [Option.some.injEq, Addr.mk.injEq, and_true] at e'
      obtain ⟨rfl, rfl⟩ := e'
      obtain ⟨q, hq⟩ : ∃ q, q = l[i] := ⟨_, rfl⟩
      obtain ⟨s, hs⟩ : ∃ s, s = l[i + 1] := ⟨_, rfl⟩
      have HQ := Lib.hid hq; have HS := Lib.hid hs
      rw [← hq] at k1
      rw [← hs] at k2
      have hd : decide ((i : Int) + 1 < (l.length : Int)) = true := decide_eq_true (by omega)
      have hsub : IntKind.i64.wrap ((i : Int) + 1 - 1) = (i : Int) := by rw [show (i : Int) + 1 - 1 = (i : Int) by omega]; exact IntWalk.i64_in _ ⟨by omega, by omega⟩
      have hadd : IntKind.i64.wrap ((i : Int) + 1 + 1) = (i : Int) + 1 + 1 := IntWalk.i64_in _ ⟨by omega, by omega⟩
      have htn : ((i : Int) + 1).toNat = i + 1 := by omega
      have hnn : 0 ≤ (i : Int) + 1 := by omega
      clear hq hs
      cases hlq : decide (kb q < kb s) with
      | true =>
        obtain ⟨f1, f2⟩ := lt_facts hlq
        have HA2 : Hid (∀ j (h : j + 1 < l.length), j < i + 1 → kb l[j] < kb l[j + 1]) := Lib.hid (fun j h hj => by
          by_cases e : j = i
          · subst e; rw [← HQ.out, ← HS.out]; exact of_decide_eq_true hlq
          · exact HA.out j h (by omega))
        clear hlq
        go_wp2_with fail
        go_quiet (fail)
        obtain ⟨z, hz⟩ : ∃ z, z = nq := ⟨_, rfl⟩
        rw [← hz]; clear hz
        go_wp2
        go_roundg (gk - 1)
        case rel => exact ⟨i + 1, by go_num, by omega, by omega, HA2, Lib.hid (H1.out.below (below_draws (Below.refl _ _) z)), Lib.hid (below_draws HB.out z)⟩
        case measure => omega
      | false =>
        obtain ⟨f1, f2⟩ := lt_facts hlq
        have HN : Hid (¬ Up l) := Lib.hid (fun h => of_decide_eq_false hlq (by have := h i hlt; rw [← HQ.out, ← HS.out] at this; exact this))
        clear hlq
        go_wp2_with fail
        go_quiet (fail)
        obtain ⟨z, hz⟩ : ∃ z, z = nq := ⟨_, rfl⟩
        rw [← hz]; clear hz
        go_wp2
        go_ret
        exact ⟨false, rfl, by simpa using HN.out, below_draws HB.out z⟩
    · have hd : decide ((i : Int) + 1 < (l.length : Int)) = false := decide_eq_false (by omega)
      go_wp2
      go_ret
      exact ⟨true, rfl, by simp; exact fun j h => HA.out j h (by omega), HB.out⟩
set_option maxRecDepth 100000 in
set_option maxHeartbeats 800000 in
theorem rsorted_any (u : Value) (l : List ByteArray) (w : World) (hu : SliceOf strE 1 w u l) :
    Calls Try.prog 23 #[u] w fun e w' => ∃ b, e = .returned (.bool b) ∧ (b = true ↔ Up l) ∧ Below w.heap.size w w' := by
  have HU := Lib.hid hu
  obtain ⟨ao, cap, rfl, hcap, hcm, _, _⟩ := hu
  go_enter Try.func23, Try.ntmps23
  go_wp2
  go_loopg [3] (l.length + 1) (fun g s3 wr => ∃ i : Nat, s3 = .int .i64 ((i : Int) + 1) ∧ i ≤ l.length ∧ l.length + 1 ≤ i + g ∧ Hid (∀ j (h : j + 1 < l.length), j < i → kb l[j] < kb l[j + 1]) ∧ Hid (SliceOf strE 1 wr (.slice ao l.length cap) l) ∧ Hid (Below w.heap.size w wr))
  case atStart => exact ⟨0, rfl, by omega, by omega, Lib.hid (fun j _ h => absurd h (by omega)), HU, Lib.hid (Below.refl _ _)⟩
  case round =>
    obtain ⟨i, rfl, hi, hg, HA, H1, HB⟩ := hrel
    by_cases hlt : i + 1 < l.length
    · obtain ⟨b, off, rfl, k1⟩ := strAt H1.out i (by omega)
      obtain ⟨b', off', e', k2⟩ := strAt H1.out (i + 1) hlt
      simp only [Option.some.injEq, Addr.mk.injEq, and_true] at e'
      obtain ⟨rfl, rfl⟩ := e'
      obtain ⟨q, hq⟩ : ∃ q, q = l[i] := ⟨_, rfl⟩
      obtain ⟨s, hs⟩ : ∃ s, s = l[i + 1] := ⟨_, rfl⟩
      have HQ := Lib.hid hq; have HS := Lib.hid hs
      rw [← hq] at k1
      rw [← hs] at k2
      have hd : decide ((i : Int) + 1 < (l.length : Int)) = true := decide_eq_true (by omega)
      have hsub : IntKind.i64.wrap ((i : Int) + 1 - 1) = (i : Int) := by rw [show (i : Int) + 1 - 1 = (i : Int) by omega]; exact IntWalk.i64_in _ ⟨by omega, by omega⟩
      have hadd : IntKind.i64.wrap ((i : Int) + 1 + 1) = (i : Int) + 1 + 1 := IntWalk.i64_in _ ⟨by omega, by omega⟩
      have htn : ((i : Int) + 1).toNat = i + 1 := by omega
      have hnn : 0 ≤ (i : Int) + 1 := by omega
      clear hq hs
      cases hlq : decide (kb q < kb s) with
      | true =>
        obtain ⟨f1, f2⟩ := lt_facts hlq
        have HA2 : Hid (∀ j (h : j + 1 < l.length), j < i + 1 → kb l[j] < kb l[j + 1]) := Lib.hid (fun j h hj => by
          by_cases e : j = i
          · subst e; rw [← HQ.out, ← HS.out]; exact of_decide_eq_true hlq
          · exact HA.out j h (by omega))
        clear hlq
        go_wp2_with fail
        go_quiet (fail)
        obtain ⟨z, hz⟩ : ∃ z, z = nq := ⟨_, rfl⟩
        rw [← hz]; clear hz
        go_wp2
        go_roundg (gk - 1)
        case rel => exact ⟨i + 1, by go_num, by omega, by omega, HA2, Lib.hid (H1.out.below (below_draws (Below.refl _ _) z)), Lib.hid (below_draws HB.out z)⟩
        case measure => omega
      | false =>
        obtain ⟨f1, f2⟩ := lt_facts hlq
        have HN : Hid (¬ Up l) := Lib.hid (fun h => of_decide_eq_false hlq (by have := h i hlt; rw [← HQ.out, ← HS.out] at this; exact this))
        clear hlq
        go_wp2_with fail
        go_quiet (fail)
        obtain ⟨z, hz⟩ : ∃ z, z = nq := ⟨_, rfl⟩
        rw [← hz]; clear hz
        go_wp2
        go_ret
        exact ⟨false, rfl, by simpa using HN.out, below_draws HB.out z⟩
    · have hd : decide ((i : Int) + 1 < (l.length : Int)) = false := decide_eq_false (by omega)
      go_wp2
      go_ret
      exact ⟨true, rfl, by simp; exact fun j h => HA.out j h (by omega), HB.out⟩
set_option maxRecDepth 100000 in
set_option maxHeartbeats 800000 in
/-- A list is itself. -/
theorem same_any (u v : Value) (l : List ByteArray) (w : World) (hu : SliceOf strE 1 w u l) (hv : SliceOf strE 1 w v l) :
    Calls Try.prog 24 #[u, v] w fun e w' => e = .returned (.bool true) ∧ Below w.heap.size w w' := by
  have HU := Lib.hid hu; have HV := Lib.hid hv
  obtain ⟨ao, cap, rfl, hcap, hcm, _, _⟩ := hu
  obtain ⟨a2, c2, rfl, hcap2, hcm2, _, _⟩ := hv
  go_enter Try.func24, Try.ntmps24
  go_wp2
  go_loopg [5] (l.length + 1) (fun g s5 wr => ∃ i : Nat, s5 = .int .i64 i ∧ i ≤ l.length ∧ l.length + 1 ≤ i + g ∧ Hid (SliceOf strE 1 wr (.slice ao l.length cap) l) ∧ Hid (SliceOf strE 1 wr (.slice a2 l.length c2) l) ∧ Hid (Below w.heap.size w wr))
  case atStart => exact ⟨0, rfl, by omega, by omega, HU, HV, Lib.hid (Below.refl _ _)⟩
  case round =>
    obtain ⟨i, rfl, hi, hg, H1, H2, HB⟩ := hrel
    by_cases hlt : i < l.length
    · obtain ⟨b, off, rfl, k1⟩ := strAt H1.out i hlt
      obtain ⟨b', off', rfl, k2⟩ := strAt H2.out i hlt
      obtain ⟨s, hs⟩ : ∃ s, s = l[i] := ⟨_, rfl⟩
      rw [← hs] at k1 k2
      have hd : decide ((i : Int) < (l.length : Int)) = true := decide_eq_true (by omega)
      clear hs
      go_wp2_with fail
      go_quiet (fail)
      obtain ⟨z, hz⟩ : ∃ z, z = nq := ⟨_, rfl⟩
      rw [← hz]; clear hz
      go_wp2
      go_roundg (gk - 1)
      case rel => exact ⟨i + 1, by go_num, by omega, by omega, Lib.hid (H1.out.below (below_draws (Below.refl _ _) z)), Lib.hid (H2.out.below (below_draws (Below.refl _ _) z)), Lib.hid (below_draws HB.out z)⟩
      case measure => omega
    · have hd : decide ((i : Int) < (l.length : Int)) = false := decide_eq_false (by omega)
      go_wp2
      go_ret
      exact ⟨rfl, HB.out⟩
end Go.Proofs.Ytjiipmehgcnaeaa
