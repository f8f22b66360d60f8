/- Package tree: what awake asks. Conditions: none. -/
import Derived.Test.YthmljllgfigebaaTreeN
namespace Go.Proofs.Ythmljllgfigebaa
open Go.RowKit Go.Shelf
set_option linter.unusedVariables false
theorem strAt {w : World} {ao : Option Addr} {n cap : Nat} {l : List ByteArray} (h : SliceOf strE 1 w (.slice ao n cap) l) (i : Nat) (hi : i < l.length) : ∃ b off, ao = some ⟨b, off, none⟩ ∧ w.cell? ⟨b, off + i, none⟩ = some (.string l[i]) := by
  obtain ⟨a', c', e1, _, _, _, hx⟩ := h
  obtain ⟨b, off, e2, hr⟩ := hx i hi
  simp only [Value.slice.injEq] at e1
  exact ⟨b, off, by rw [e1.1, e2], by simpa using hr 0 _ rfl⟩
set_option maxRecDepth 100000 in
set_option maxHeartbeats 800000 in
/-- A list is itself. -/
theorem same_any (u v : Value) (l : List ByteArray) (w : World) (hu : SliceOf strE 1 w u l) (hv : SliceOf strE 1 w v l) :
    Calls Try.prog 24 #[u, v] w fun e w' => e = .returned (.bool true) ∧ Below w.heap.size w w' := by
  have HU := Lib.hid hu; have HV := Lib.hid hv
  obtain ⟨ao, cap, rfl, hcap, hcm, _, _⟩ := hu
  obtain ⟨a2, c2, rfl, hcap2, hcm2, _, _⟩ := hv
  go_enter Try.func24, Try.ntmps24
  go_wp2
  go_loopg [5] (l.length + 1) (fun g s5 wr => ∃ i : Nat, s5 = .int .i64 i ∧ i ≤ l.length ∧ l.length + 1 ≤ i + g ∧ Hid (SliceOf strE 1 wr (.slice ao l.length cap) l) ∧ Hid (SliceOf strE 1 wr (.slice a2 l.length c2) l) ∧ Hid (Below w.heap.size w wr))
  case atStart => exact ⟨0, rfl, by omega, by omega, HU, HV, Lib.hid (Below.refl _ _)⟩
  case round =>
    obtain ⟨i, rfl, hi, hg, H1, H2, HB⟩ := hrel
    by_cases hlt : i < l.length
    · obtain ⟨b, off, rfl, k1⟩ := strAt H1.out i hlt
      obtain ⟨b', off', rfl, k2⟩ := strAt H2.out i hlt
      obtain ⟨s, hs⟩ : ∃ s, s = l[i] := ⟨_, rfl⟩
      rw [← hs] at k1 k2
      have hd : decide ((i : Int) < (l.length : Int)) = true := decide_eq_true (by omega)
      clear hs
      go_wp2_with fail
      go_quiet (fail)
      obtain ⟨z, hz⟩ : ∃ z, z = nq := ⟨_, rfl⟩
      rw [← hz]; clear hz
      go_wp2
      go_roundg (gk - 1)
      case rel => exact ⟨i + 1, by go_num, by omega, by omega, Lib.hid (H1.out.below (below_draws (Below.refl _ _) z)), Lib.hid (H2.out.below (below_draws (Below.refl _ _) z)), Lib.hid (below_draws HB.out z)⟩
      case measure => omega
    · have hd : decide ((i : Int) < (l.length : Int)) = false := decide_eq_false (by omega)
      go_wp2
      go_ret
      exact ⟨rfl, HB.out⟩

def ba : ByteArray := ⟨#[97]⟩
def bb : ByteArray := ⟨#[98]⟩
theorem klt_ab : klt ba bb = true := by unfold klt; rw [Go.ByteArray.toList_eq, Go.ByteArray.toList_eq]; rfl
theorem klt_e (k : ByteArray) : klt k ⟨#[]⟩ = false := by unfold klt; rw [Go.ByteArray.toList_eq, Go.ByteArray.toList_eq]; cases k.data.toList <;> rfl
theorem wkL_e (L : List Kv) : wkL ⟨#[]⟩ L = L.map (·.1) := by
  unfold wkL
  rw [List.filter_eq_self.2 (fun a _ => by rw [klt_e]; rfl)]
theorem kcut_e (l : List ByteArray) : kcut ⟨#[]⟩ l = l := kcut_all fun x _ => by unfold hit; rw [Go.ByteArray.toList_eq]; rfl
theorem aw1 : insL [] bb 1 = [(bb, 1)] ∧ hasL [] bb = false := ⟨rfl, rfl⟩
theorem aw2 : insL [(bb, 1)] ba 2 = [(ba, 2), (bb, 1)] ∧ hasL [(bb, 1)] ba = false := by simp [insL, hasL, klt_ab]
theorem aw3 : insL [(ba, 2), (bb, 1)] bb 3 = [(ba, 2), (bb, 3)] ∧ hasL [(ba, 2), (bb, 1)] bb = true := by simp [insL, hasL, klt_ab, klt_as klt_ab, klt_irr]
theorem aw4 : getL [(ba, 2), (bb, 3)] bb = 3 ∧ hasL [(ba, 2), (bb, 3)] bb = true := by simp [getL, hasL, klt_ab, klt_as klt_ab, klt_irr]
theorem row_new {w : World} {T : TypeId} (cs : List Value) : (w.alloc (.cells cs.toArray T)).rangeAt w.heap.size 0 cs := by
  have h : Blk (w.alloc (.cells cs.toArray T)) w.heap.size T cs.toArray := World.alloc_heap_new w _
  exact h.range 0 cs (fun j v hv => by simpa using hv)

set_option maxRecDepth 100000 in
set_option maxHeartbeats 2000000 in
theorem awake15 (w : World) : Calls Try.prog 28 #[] w fun e w' => e = .returned (.bool true) ∧ Below w.heap.size w w' := by
  go_enter Try.func28, Try.ntmps28
  go_wp2_with fail
  refine (tnew_any _).mono ?_
  rintro e w1 ⟨S, rfl, hO, hlo, hb⟩
  have HLO := Lib.hid hlo; have HB := Lib.hid hb; clear hlo hb
  go_wp2_with fail
  refine (tput_any S w1 _ [] 0 bb 1 hO (by simp)).mono ?_
  rintro e w2 ⟨d2, S2, rfl, hO2, hg2⟩
  rw [aw1.1] at hO2; rw [aw1.2]
  have HB2 := Lib.hid (hbL HB.out HLO.out hg2.but); have HLO2 := Lib.hid (hg2.lo HLO.out HB.out.size); clear hg2 HB HLO hO
  go_wp2_with fail
  refine (tput_any S2 w2 _ _ d2 ba 2 hO2 (by simp)).mono ?_
  rintro e w3 ⟨d3, S3, rfl, hO3, hg3⟩
  rw [aw2.1] at hO3; rw [aw2.2]
  have HB3 := Lib.hid (hbL HB2.out HLO2.out hg3.but); have HLO3 := Lib.hid (hg3.lo HLO2.out HB2.out.size); clear hg3 HB2 HLO2 hO2
  go_wp2_with fail
  refine (tput_any S3 w3 _ _ d3 bb 3 hO3 (by simp)).mono ?_
  rintro e w4 ⟨d4, S4, rfl, hO4, hg4⟩
  rw [aw3.1] at hO4; rw [aw3.2]
  have HB4 := Lib.hid (hbL HB3.out HLO3.out hg4.but); have HLO4 := Lib.hid (hg4.lo HLO3.out HB3.out.size); clear hg4 HB3 HLO3 hO3
  have HO := Lib.hid hO4; clear hO4
  go_wp2_with fail
  refine (tget_any S4 w4 _ _ d4 bb HO.out).mono ?_
  rintro e w5 ⟨rfl, rfl⟩
  rw [aw4.1, aw4.2]
  go_wp2_with fail
  refine (tlen_any S4 w4 _ _ d4 HO.out).mono ?_
  rintro e w5 ⟨rfl, rfl⟩
  go_wp2_with fail
  refine (tkeys_any S4 w4 _ _ d4 ⟨#[]⟩ ⟨#[]⟩ HO.out (by simp)).mono ?_
  rintro e w5 ⟨u, rfl, hr, hb5⟩
  rw [wkL_e, kcut_e] at hr
  have HR := Lib.hid (SliceOf.own (enc := strE) (sz := 1) (l := [ba, bb]) hr (fun _ _ => rfl)); have HB5 := Lib.hid (hb_call HB4.out hb5); clear hr hb5
  have g5 := World.grownBy_alloc w5 (.cells #[.string ba, .string bb] 9) none
  have hS2 : SliceOf strE 1 (w5.alloc (.cells #[.string ba, .string bb] 9)) (.slice (some ⟨w5.heap.size, 0, none⟩) [ba, bb].length 2) [ba, bb] := SliceOf.mk' (by simp) (by omega) (fun j hj => by
    have h : Blk (w5.alloc (.cells #[.string ba, .string bb] 9)) w5.heap.size 9 #[.string ba, .string bb] := World.alloc_heap_new w5 _
    refine h.range _ _ fun i v hv => ?_
    have hj' : j = 0 ∨ j = 1 := by simp at hj; omega
    cases i with
    | succ i => simp [strE] at hv
    | zero => rcases hj' with rfl | rfl <;> simpa [strE] using hv)
  have HS2 := Lib.hid hS2; have HB6 := Lib.hid (hb_new HB5.out g5); have HR6 := Lib.hid (HR.out.below (grown_below g5)); clear hS2 g5
  go_wp2_with fail
  refine (same_any _ _ [ba, bb] _ HR6.out HS2.out).mono ?_
  rintro e w6 ⟨rfl, hb6⟩
  have HB7 := Lib.hid (hb_call HB6.out hb6); clear hb6
  go_wp2
  go_ret
  exact ⟨rfl, HB7.out⟩

set_option maxRecDepth 100000 in
set_option maxHeartbeats 4000000 in
theorem tzero_any (k : ByteArray) (v : Int) (w : World) (_hk : k.size ≤ 140737488351232) : Calls Try.prog 6 #[.string k, .int .i64 v] w fun e w' => e = .returned (.bool true) ∧ Below w.heap.size w w' := by
  have hZ : Blk (w.alloc (.cells #[.bool false, .pointer none, .int .i64 0] 51)) w.heap.size 51 #[.bool false, .pointer none, .int .i64 0] := World.alloc_heap_new w _
  have hBB : Below w.heap.size w (w.alloc (.cells #[.bool false, .pointer none, .int .i64 0] 51)) := (Below.refl _ w).alloc (Nat.le_refl _) _
  have hz2 : NoTr (w.alloc (.cells #[.bool false, .pointer none, .int .i64 0] 51)) (pt w.heap.size 0) := .inr ⟨_, _, _, rfl, hZ⟩
  have Z2 := Lib.hid hz2; have HB := Lib.hid hBB; clear hz2 hBB hZ
  go_enter Try.func6, Try.ntmps6
  go_wp2_with fail
  refine (zget_any _ _ k (.inl rfl)).mono ?_
  rintro e w1 ⟨rfl, rfl⟩
  go_wp2_with fail
  refine (zget_any _ _ k Z2.out).mono ?_
  rintro e w1 ⟨rfl, rfl⟩
  go_wp2_with fail
  refine (zseek_any _ _ k (.inl rfl)).mono ?_
  rintro e w1 ⟨rfl, hb1⟩
  have Z3 := Lib.hid (Z2.out.gr (below_grown hb1)); have HB1 := Lib.hid (hb_call HB.out hb1); clear hb1 Z2 HB
  go_wp2_with fail
  refine (zseek_any _ _ k Z3.out).mono ?_
  rintro e w2 ⟨rfl, hb2⟩
  have Z4 := Lib.hid (Z3.out.gr (below_grown hb2)); have HB2 := Lib.hid (hb_call HB1.out hb2); clear hb2 Z3 HB1
  go_wp2_with fail
  refine (zput_any _ _ k v (.inl rfl)).mono ?_
  rintro e w1 ⟨rfl, rfl⟩
  go_wp2_with fail
  refine (zput_any _ _ k v Z4.out).mono ?_
  rintro e w1 ⟨rfl, rfl⟩
  go_wp2_with fail
  refine (zdel_any _ _ k (.inl rfl)).mono ?_
  rintro e w1 ⟨rfl, rfl⟩
  go_wp2_with fail
  refine (zdel_any _ _ k Z4.out).mono ?_
  rintro e w1 ⟨rfl, rfl⟩
  go_wp2_with fail
  refine (zlen_any _ _ (.inl rfl)).mono ?_
  rintro e w1 ⟨rfl, rfl⟩
  go_wp2_with fail
  refine (zlen_any _ _ Z4.out).mono ?_
  rintro e w1 ⟨rfl, rfl⟩
  go_wp2_with fail
  refine (zdepth_any _ _ (.inl rfl)).mono ?_
  rintro e w1 ⟨rfl, rfl⟩
  go_wp2_with fail
  refine (zdepth_any _ _ Z4.out).mono ?_
  rintro e w1 ⟨rfl, rfl⟩
  go_wp2_with fail
  refine (zkeys_any _ _ _ _ (.inl rfl)).mono ?_
  rintro e w3 ⟨rfl, hb3⟩
  have Z5 := Lib.hid (Z4.out.gr (below_grown hb3)); have HB3 := Lib.hid (hb_call HB2.out hb3); clear hb3 Z4 HB2
  go_wp2_with fail
  refine (zkeys_any _ _ _ _ Z5.out).mono ?_
  rintro e w4 ⟨rfl, hb4⟩
  have HB4 := Lib.hid (hb_call HB3.out hb4); clear hb4 Z5 HB3
  go_wp2_with fail
  refine (awake15 _).mono ?_
  rintro e w5 ⟨rfl, hb5⟩
  have HB5 := Lib.hid (hb_call HB4.out hb5); clear hb5 HB4
  go_wp2
  go_ret
  exact ⟨rfl, HB5.out⟩
end Go.Proofs.Ythmljllgfigebaa
