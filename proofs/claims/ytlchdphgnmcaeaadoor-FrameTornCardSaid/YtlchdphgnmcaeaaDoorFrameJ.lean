/- catenaref04.All; catenalaw04.texts. Conditions: the table reads as it is laid. -/
import Derived.Test.YtlchdphgnmcaeaaDoorFrameI
import Derived.Laws.AppendOwnNone
import Derived.Deep.AppendLies
namespace Go.Proofs.YtlchdphgnmcaeaaDoor
open Go.RowKit Go.PlainAid

set_option maxRecDepth 100000 in
set_option maxHeartbeats 1600000 in
theorem rall_any (s : ByteArray) (w : World) (ht : Tab w) (hs : s.size ≤ 8796093022207) :
    Calls Tryd.prog 10 #[.string s] w fun e w' => ∃ v l b c, e = .returned (.tuple #[v, .int .i64 b, .int .i64 c]) ∧ AllR s l b c ∧ w'.ownsRow w.heap.size 9 1 v l.length (l.flatMap strE) ∧ Below w.heap.size w w' := by
  obtain ⟨i0, hi, hz0, hz1, hz2⟩ := info_parts info_strI
  have HT := Lib.hid ht; clear ht
  go_enter Tryd.func10, Tryd.ntmps10
  go_wp2
  go_loopg [5, 6] (s.size + 1) (fun g s5 s6 wr => ∃ (l : List ByteArray) (b : Int), s6 = .int .i64 b ∧ Run s 0 l b ∧ (s.size : Int) + 1 ≤ b + g ∧ wr.ownsRow w.heap.size 9 1 s5 l.length (l.flatMap strE) ∧ Below w.heap.size w wr)
  case atStart => exact ⟨[], 0, rfl, rfl, by omega, World.ownsRow_nil _ _ _ _, Below.refl _ _⟩
  case round =>
    obtain ⟨l, b, rfl, hrun, hg, hown, hbel⟩ := hrel
    obtain ⟨hb1, hb2⟩ := hrun.bound (by omega) (by omega)
    have hsz := hbel.size
    have HO := Lib.hid hown; have HB := Lib.hid hbel; have HRUN := Lib.hid hrun; have HT1 := Lib.hid (HT.out.below hbel)
    clear hown hbel hrun
    by_cases hlt : b < (s.size : Int)
    · obtain ⟨⟨t, nx, e⟩, hr⟩ : ∃ r, nextR s b = r := ⟨_, rfl⟩
      have HR := Lib.hid hr; clear hr
      by_cases he : e = 0
      · subst he
        have hadv := next_adv s b (by rw [HR.out])
        rw [HR.out] at hadv
        obtain ⟨ha1, ha2, ha3⟩ := hadv
        have ha2' : b + 4 < nx := ha2
        have ha3' : nx ≤ (s.size : Int) := ha3
        clear ha2 ha3
        have HRUN2 : Hid (Run s 0 (l ++ [t]) nx) := Lib.hid (by
          have h := Run.snoc HRUN.out hlt (by rw [HR.out])
          rw [HR.out] at h
          exact h)
        go_wp2_with fail
        refine (rnext_any s b _ HT1.out (by omega)).mono ?_
        rintro e9 w2 ⟨rfl, hb9⟩
        rw [HR.out]
        unfold nextV
        have hs2 := hb9.size
        have HO2 := Lib.hid (HO.out.kept (grown_of_below hb9) (Classical.em _))
        have HB2 := Lib.hid (HB.out.trans (hb9.mono hsz)); clear hb9
        go_wp2_with (at_builtin; go_loud (refine wpList_append_lies _ rfl (.tmp 26) (.tmp 28) 31 rfl w.heap.size 9 i0 (.string ⟨#[]⟩) 1 16 Tryd.underlying31 hi hz0 hz1 hz2 rfl (by decide) _ l.length _ rfl (HO2.out.alloc _) ⟨w2.heap.size, 0, none⟩ 1 1 [.string t] rfl rfl (one_cell _ _ _) (by simp [Value.oneCell']) (by omega) (by unfold maxLen; omega) (by omega) (by simp; omega) (w2.heap.size + 1) (by simp) ?_); intro g1 cp1 w1 hown1 hgr1 hg1 hg1s)
        have hbel1 : Below w.heap.size w w1 := (HB2.out.alloc (by omega) _).grown hgr1 (by simp; omega) (fun j hj => (HO2.out.lt j hj).1)
        have HO1 : Hid (w1.ownsRow w.heap.size 9 1 (.slice (some ⟨g1, 0, none⟩) (l.length + 1) cp1) (l ++ [t]).length ((l ++ [t]).flatMap strE)) := Lib.hid (by
          rw [List.length_append, List.length_singleton, List.flatMap_append]; exact hown1)
        have HB1 := Lib.hid hbel1
        clear hown1 hgr1 hbel1
        go_wp2
        go_roundg (gk - 1)
        case rel => exact ⟨l ++ [t], nx, rfl, HRUN2.out, by omega, HO1.out, HB1.out⟩
        case measure => omega
      · have hne : (e != 0) = true := by simpa using he
        have HE := Lib.hid he; clear he
        go_wp2_with fail
        refine (rnext_any s b _ HT1.out (by omega)).mono ?_
        rintro e9 w2 ⟨rfl, hb9⟩
        rw [HR.out]
        unfold nextV
        have HO2 := Lib.hid (HO.out.kept (grown_of_below hb9) (Classical.em _))
        have HB2 := Lib.hid (HB.out.trans (hb9.mono hsz)); clear hb9
        go_wp2
        go_ret3
        exact ⟨_, l, b, e, rfl, ⟨HRUN.out, .inr ⟨hlt, by rw [HR.out], HE.out⟩⟩, HO2.out, HB2.out⟩
    · go_wp2
      go_ret3
      exact ⟨_, l, b, 0, rfl, ⟨HRUN.out, .inl ⟨by omega, rfl⟩⟩, HO.out, HB.out⟩

set_option maxRecDepth 100000 in
set_option maxHeartbeats 800000 in
theorem texts_same (v v' : Value) (l : List ByteArray) (w : World) (hs : SliceOf strE 1 w v l) (hs' : SliceOf strE 1 w v' l) :
    Calls Tryd.prog 11 #[v, v'] w fun e w' => e = .returned (.bool true) ∧ Below w.heap.size w w' := by
  obtain ⟨ao, cap, rfl, hcap, hcm, _, hcell⟩ := hs
  obtain ⟨ao', cap', rfl, hcap', hcm', _, hcell'⟩ := hs'
  have HC := Lib.hid hcell; have HC' := Lib.hid hcell'; clear hcell hcell'
  go_enter Tryd.func11, Tryd.ntmps11
  go_wp2
  go_loopg [5] (l.length + 1) (fun g s5 wr => ∃ i : Nat, s5 = .int .i64 i ∧ i ≤ l.length ∧ l.length + 1 ≤ i + g ∧ Below w.heap.size w wr)
  case atStart => exact ⟨0, rfl, by omega, by omega, Below.refl _ _⟩
  case round =>
    obtain ⟨i, rfl, hi, hg, hbel⟩ := hrel
    have HB := Lib.hid hbel; have hsz := hbel.size
    clear hbel
    by_cases hlt : i < l.length
    · obtain ⟨b, off, rfl, hr⟩ := HC.out i hlt
      obtain ⟨b', off', rfl, hr'⟩ := HC'.out i hlt
      obtain ⟨c, hc⟩ : ∃ c, c = l[i] := ⟨_, rfl⟩
      rw [← hc] at hr hr'
      have k0 : wr.cell? ⟨b, off + i, none⟩ = some (.string c) := by have := cell_below HB.out (hr 0 _ rfl); rw [Nat.mul_one, Nat.add_zero] at this; exact this
      have k0' : wr.cell? ⟨b', off' + i, none⟩ = some (.string c) := by have := cell_below HB.out (hr' 0 _ rfl); rw [Nat.mul_one, Nat.add_zero] at this; exact this
      have hd : decide ((i : Int) < (l.length : Int)) = true := decide_eq_true (by omega)
      have hcc : (c.toList == c.toList) = true := by simp
      clear hr hr' hc
      go_wp2_with fail
      go_quiet (fail)
      go_wp2
      go_roundg (gk - 1)
      case rel => exact ⟨i + 1, by go_num, by omega, by omega, below_draws HB.out _⟩
      case measure => omega
    · have hd : decide ((i : Int) < (l.length : Int)) = false := decide_eq_false (by omega)
      go_wp2
      go_ret
      exact ⟨rfl, HB.out⟩
end Go.Proofs.YtlchdphgnmcaeaaDoor
