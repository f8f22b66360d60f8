/- Package agree: the laws. Conditions: none. -/
import Derived.Test.YtannjgcnemkddaaAgreeB
namespace Go.Proofs.Ytannjgcnemkddaa
open Go.RowKit Go.PlainAid

theorem built_rows {α : Type} {enc : α → List Value} {sz : Nat} {w : World} (T : TypeId) (l : List α) (hsz : ∀ y ∈ l, (enc y).length = sz) {n m : Nat} (hn : l.length = n) (hm : n ≤ 1000) (hw : w.heap.size = m) :
    SliceOf enc sz (w.alloc (.cells (l.flatMap enc).toArray T)) (.slice (some ⟨m, 0, none⟩) n n) l := by
  subst hn hw
  refine SliceOf.own (B := w.heap.size) (e := T) ?_ hsz
  have := row_built w (l.flatMap enc).toArray T sz l.length w.heap.size (Nat.le_refl _) (by simpa using flat_len l hsz) (by unfold maxLen; omega)
  simpa using this

set_option maxRecDepth 100000 in
set_option maxHeartbeats 800000 in
theorem awake_any (w : World) :
    Calls Try.prog 60 #[] w fun e w' => e = .returned (.bool true) ∧ Below w.heap.size w w' := by
  have S1 : Hid (SliceOf (intE .u64) 1 (w.alloc (.cells #[.int .u64 9, .int .u64 7] 36)) (.slice (some ⟨w.heap.size, 0, none⟩) 2 2) [9, 7]) := built_rows (enc := intE .u64) (sz := 1) (w := w) 36 [9, 7] (fun _ _ => rfl) rfl (by decide) rfl
  have e1 : leastV [9, 7] = .tuple #[.int .u64 7, .bool true] := by kernel_rfl
  have e2 : hz 3 [9, 7] [(1, 4, 0)] = 4 := by decide
  have e3 : hz 3 [] [] = 3 := by decide
  go_enter Try.func60, Try.ntmps60
  go_wp2_with fail
  refine (Least_any _ _ _ S1.out).mono ?_
  rintro e w1 ⟨rfl, rfl⟩
  rw [e1]
  have hb1 : Below w.heap.size w (w.alloc (.cells #[.int .u64 9, .int .u64 7] 36)) := (Below.refl _ _).alloc (Nat.le_refl _) _
  generalize w.alloc (.cells #[.int .u64 9, .int .u64 7] 36) = W at *
  have HB := Lib.hid hb1
  have S2 := built_rows (enc := intE .u64) (sz := 1) (w := W) 36 [9, 7] (fun _ _ => rfl) rfl (by decide) rfl
  have S3 := built_rows (enc := pinE) (sz := 3) (w := W.alloc (.cells #[.int .u64 9, .int .u64 7] 36)) 69 [(1, 4, 0)] (fun _ _ => rfl) rfl (by decide) (m := W.heap.size + 1) (by simp)
  have HS2 := Lib.hid (S2.below (w' := (W.alloc (.cells #[.int .u64 9, .int .u64 7] 36)).alloc (.cells #[.int .i64 1, .int .u64 4, .int .i64 0] 69)) ((Below.refl _ _).alloc (Nat.le_refl _) _))
  have HS3 := Lib.hid S3
  have hb2 : Below W.heap.size W ((W.alloc (.cells #[.int .u64 9, .int .u64 7] 36)).alloc (.cells #[.int .i64 1, .int .u64 4, .int .i64 0] 69)) := ((Below.refl _ _).alloc (Nat.le_refl _) _).alloc (by simp) _
  have HB2 := Lib.hid hb2
  clear S1 S2 S3 hb1 hb2
  go_wp2_with fail
  refine (horizon_any _ _ _ _ _ _ HS2.out (by simp [U64]) HS3.out (by decide)).mono ?_
  rintro e w2 ⟨rfl, hb3⟩
  rw [e2]
  have HB3 := Lib.hid (HB.out.trans ((HB2.out.trans (hb3.mono HB2.out.size)).mono HB.out.size))
  clear hb3
  go_wp2_with fail
  refine (horizon_any _ _ _ _ _ _ (SliceOf.nil _ _ _) (by simp) (SliceOf.nil _ _ _) (by decide)).mono ?_
  rintro e w3 ⟨rfl, hb4⟩
  rw [e3]
  go_wp2
  go_ret
  exact ⟨rfl, HB3.out.trans (hb4.mono HB3.out.size)⟩

theorem u64_all {l : List Int} (h : ∀ n ∈ l, (Lit.int .u64 n).wf = true) : ∀ n ∈ l, U64 n := fun n hn => by
  have := wf_u64 (h n hn); exact ⟨this.1, by omega⟩

set_option maxRecDepth 100000 in
set_option maxHeartbeats 800000 in
theorem plays_law (old : Int) (vm : Value) (marks : List Int) (vp : Value) (pins : List (Int × Int × Int)) (w : World) (_h0 : (Lit.int .u64 old).wf = true)
    (hm : SliceOf (intE .u64) 1 w vm marks) (hmw : ∀ n ∈ marks, (Lit.int .u64 n).wf = true) (hp : SliceOf pinE 3 w vp pins) (_hpw : ∀ p ∈ pins, pinOk p) :
    Calls Try.prog 12 #[.int .u64 old, vm, vp] w fun e w' => e = .returned (.bool true) ∧ Below w.heap.size w w' := by
  have HU := Lib.hid (u64_all hmw)
  have HM := Lib.hid hm; have HP := Lib.hid hp
  obtain ⟨ao, cap, rfl, _, _, _, _⟩ := hm
  obtain ⟨ao2, cap2, rfl, _, _, _, _⟩ := hp
  clear hmw
  by_cases h1 : 60 < marks.length
  · go_enter Try.func12, Try.ntmps12
    go_wp2_with (go_at_call 60; refine (awake_any _).mono ?_; rintro e w3 ⟨rfl, hb3⟩)
    go_ret
    exact ⟨rfl, hb3⟩
  by_cases h2 : 60 < pins.length
  · go_enter Try.func12, Try.ntmps12
    go_wp2_with (go_at_call 60; refine (awake_any _).mono ?_; rintro e w3 ⟨rfl, hb3⟩)
    go_ret
    exact ⟨rfl, hb3⟩
  · go_enter Try.func12, Try.ntmps12
    go_wp2_with fail
    refine (Least_any _ _ _ HM.out).mono ?_
    rintro e w1 ⟨rfl, rfl⟩
    unfold leastV
    go_wp2_with fail
    refine (rLeast_any _ _ _ HM.out).mono ?_
    rintro e w1 ⟨rfl, rfl⟩
    unfold leastV
    go_wp2_with fail
    refine (horizon_any _ _ _ _ _ _ HM.out HU.out HP.out (by omega)).mono ?_
    rintro e w1 ⟨rfl, hb1⟩
    have HM1 := Lib.hid (HM.out.below hb1); have HP1 := Lib.hid (HP.out.below hb1); have HB1 := Lib.hid hb1
    clear hb1
    go_wp2_with fail
    refine (rhorizon_any _ _ _ _ _ _ HM1.out HU.out HP1.out).mono ?_
    rintro e w2 ⟨rfl, rfl⟩
    go_wp2_with (go_at_call 60; refine (awake_any _).mono ?_; rintro e w3 ⟨rfl, hb3⟩)
    go_ret
    exact ⟨rfl, HB1.out.trans (hb3.mono HB1.out.size)⟩
end Go.Proofs.Ytannjgcnemkddaa
