/- catenalaw20: awake, BoundPlays. Conditions: none. -/
import Derived.Test.YtkicaomcbmmjpaaBoundA
namespace Go.Proofs.Ytkicaomcbmmjpaa
open Go.RowKit Go.PlainAid

theorem built_rows {α : Type} {enc : α → List Value} {sz : Nat} {w : World} (T : TypeId) (l : List α) (hsz : ∀ y ∈ l, (enc y).length = sz) {n m : Nat} (hn : l.length = n) (hm : n ≤ 1000) (hw : w.heap.size = m) :
    SliceOf enc sz (w.alloc (.cells (l.flatMap enc).toArray T)) (.slice (some ⟨m, 0, none⟩) n n) l := by
  subst hn hw
  refine SliceOf.own (B := w.heap.size) (e := T) ?_ hsz
  have := row_built w (l.flatMap enc).toArray T sz l.length w.heap.size (Nat.le_refl _) (by simpa using flat_len l hsz) (by unfold maxLen; omega)
  simpa using this
def twoE : List EntT := [⟨0, 0, .slice none 0 0, [], 3⟩, ⟨0, 0, .slice none 0 0, [], 5⟩]

set_option maxRecDepth 100000 in
set_option maxHeartbeats 800000 in
theorem awake20 (w : World) :
    Calls Try.prog 12 #[] w fun e w' => e = .returned (.bool true) ∧ Below w.heap.size w w' := by
  have c1 : chkR 5 4 0 = 12 := by decide
  have c2 : chkR 3 4 4 = 13 := by decide
  have c3 : chkR 4 4 4 = 0 := by decide
  have c4 : markR twoE 1 = 3 := by decide
  have C1 := Lib.hid c1; have C2 := Lib.hid c2; have C3 := Lib.hid c3; have C4 := Lib.hid c4
  clear c1 c2 c3 c4
  go_enter Try.func12, Try.ntmps12
  go_wp2_with fail
  refine (check_any 5 4 0 _).mono ?_
  rintro e w1 ⟨rfl, hb1⟩
  rw [C1.out]
  have HB1 := Lib.hid hb1; clear hb1
  go_wp2_with fail
  refine (check_any 3 4 4 _).mono ?_
  rintro e w2 ⟨rfl, hb2⟩
  rw [C2.out]
  have HB2 := Lib.hid (HB1.out.trans (hb2.mono HB1.out.size)); clear hb2
  go_wp2_with fail
  refine (check_any 4 4 4 _).mono ?_
  rintro e w3 ⟨rfl, hb3⟩
  rw [C3.out]
  have HB3 := Lib.hid (HB2.out.trans (hb3.mono HB2.out.size)); clear hb3
  have HS : Hid (SliceOf entE 4 (w3.alloc (.cells #[.int .i64 0, .int .i64 0, .slice none 0 0, .int .u64 3, .int .i64 0, .int .i64 0, .slice none 0 0, .int .u64 5] 81)) (.slice (some ⟨w3.heap.size, 0, none⟩) 2 2) twoE) := Lib.hid (built_rows (enc := entE) (sz := 4) (w := w3) 81 twoE (fun _ _ => rfl) rfl (by decide) rfl)
  have HB4 : Hid (Below w.heap.size w (w3.alloc (.cells #[.int .i64 0, .int .i64 0, .slice none 0 0, .int .u64 3, .int .i64 0, .int .i64 0, .slice none 0 0, .int .u64 5] 81))) := Lib.hid (HB3.out.alloc HB3.out.size _)
  go_wp2_with fail
  refine (mark_any _ twoE 1 _ HS.out (by decide) (by decide)).mono ?_
  rintro e w4 ⟨rfl, rfl⟩
  rw [C4.out]
  go_wp2
  go_ret
  exact ⟨rfl, HB4.out⟩

set_option maxRecDepth 100000 in
set_option maxHeartbeats 1600000 in
theorem bplays_law (v : Value) (l : List EntT) (s t m h : Int) (w : World) (hs : SliceOf entE 4 w v l) (hok : ∀ e ∈ l, EntOk w e) (hsw : (Lit.int .i64 s).wf = true) (_ht : (Lit.int .u64 t).wf = true) (_hm : (Lit.int .u64 m).wf = true) (_hh : (Lit.int .u64 h).wf = true) :
    Calls Try.prog 3 #[v, .int .i64 s, .int .u64 t, .int .u64 m, .int .u64 h] w fun e w' => e = .returned (.bool true) ∧ Below w.heap.size w w' := by
  have HS := Lib.hid hs; have HO := Lib.hid hok; have HW := Lib.hid (wf_i64 hsw)
  obtain ⟨ao, cap, rfl, _, _, _, _⟩ := hs
  clear hok hsw _ht _hm _hh
  go_enter Try.func3, Try.ntmps3
  go_wp2_with fail
  refine (much_any _ l _ HS.out HO.out).mono ?_
  rintro e w1 ⟨n, rfl, rfl⟩
  by_cases h200 : 200 < n
  · go_wp2_with fail
    refine (awake20 _).mono ?_
    rintro e w2 ⟨rfl, hb2⟩
    have HB2 := Lib.hid hb2; clear hb2
    go_wp2
    go_ret
    exact ⟨rfl, HB2.out⟩
  · go_wp2_with fail
    refine (latest_any m h _).mono ?_
    rintro e w2 ⟨rfl, hb2⟩
    have HB2 := Lib.hid hb2; clear hb2
    unfold latV
    go_wp2_with fail
    refine (rlatest_any m h _).mono ?_
    rintro e w3 ⟨rfl, rfl⟩
    unfold latV
    have HS2 := Lib.hid (HS.out.below HB2.out)
    go_wp2_with fail
    refine (mark_any _ l s _ HS2.out HW.out.1 HW.out.2).mono ?_
    rintro e w3 ⟨rfl, rfl⟩
    go_wp2_with fail
    refine (rmark_any _ l s _ HS2.out HW.out.1 HW.out.2).mono ?_
    rintro e w3 ⟨rfl, rfl⟩
    go_wp2_with fail
    refine (check_any t m h _).mono ?_
    rintro e w3 ⟨rfl, hb3⟩
    have HB3 := Lib.hid (HB2.out.trans (hb3.mono HB2.out.size)); clear hb3
    go_wp2_with fail
    refine (rcheck_any t m h _).mono ?_
    rintro e w4 ⟨rfl, rfl⟩
    go_wp2_with fail
    refine (awake20 _).mono ?_
    rintro e w5 ⟨rfl, hb5⟩
    have HB5 := Lib.hid (HB3.out.trans (hb5.mono HB3.out.size)); clear hb5
    go_wp2
    go_ret
    exact ⟨rfl, HB5.out⟩
end Go.Proofs.Ytkicaomcbmmjpaa
