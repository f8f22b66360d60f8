/- Package agree and its reference: what Least and Horizon answer for any marks and any pins (of at most 1000). Conditions: that bound. -/
import Derived.Test.YtannjgcnemkddaaPins
namespace Go.Proofs.Ytannjgcnemkddaa
open Go.RowKit Go.PlainAid

/-- The least of a list, 0 without. -/
def mn : List Int → Int
  | [] => 0
  | x :: r => r.foldl (fun a b => if b < a then b else a) x
theorem mn_snoc (l : List Int) (x : Int) (h : l ≠ []) : mn (l ++ [x]) = if x < mn l then x else mn l := by
  cases l with
  | nil => exact absurd rfl h
  | cons y r => show List.foldl _ y (r ++ [x]) = _; rw [List.foldl_append]; rfl
theorem mn_one (x : Int) : mn [x] = x := rfl
theorem foldl_le (r : List Int) : ∀ (x : Int), r.foldl (fun a b => if b < a then b else a) x ≤ x ∧ (∀ y ∈ r, r.foldl (fun a b => if b < a then b else a) x ≤ y) ∧ (r.foldl (fun a b => if b < a then b else a) x = x ∨ r.foldl (fun a b => if b < a then b else a) x ∈ r) := by
  induction r with
  | nil => intro x; simp
  | cons z r ih =>
    intro x
    rw [List.foldl_cons]
    obtain ⟨h1, h2, h3⟩ := ih (if z < x then z else x)
    have hz : (if z < x then z else x) ≤ x ∧ (if z < x then z else x) ≤ z := by split <;> omega
    refine ⟨by omega, fun y hy => ?_, ?_⟩
    · rcases List.mem_cons.1 hy with rfl | hy
      · omega
      · exact h2 y hy
    · rcases h3 with h3 | h3
      · rw [h3]; split
        · exact .inr (by simp)
        · exact .inl rfl
      · exact .inr (by simp [h3])
theorem mn_le {l : List Int} {y : Int} (h : y ∈ l) : mn l ≤ y := by
  cases l with
  | nil => cases h
  | cons x r =>
    obtain ⟨h1, h2, _⟩ := foldl_le r x
    rcases List.mem_cons.1 h with rfl | h
    · exact h1
    · exact h2 y h
theorem mn_mem {l : List Int} (h : l ≠ []) : mn l ∈ l := by
  cases l with
  | nil => exact absurd rfl h
  | cons x r =>
    obtain ⟨_, _, h3⟩ := foldl_le r x
    rcases h3 with h3 | h3
    · show List.foldl _ x r ∈ _; rw [h3]; simp
    · exact List.mem_cons_of_mem _ h3
theorem take_snoc {α : Type} {l : List α} {i : Nat} (h : i < l.length) : l.take (i + 1) = l.take i ++ [l[i]] := by
  rw [List.take_add_one, List.getElem?_eq_getElem h]; rfl
theorem take_ne {α : Type} {l : List α} {i : Nat} (h0 : 0 < i) (h : i ≤ l.length) : l.take i ≠ [] := by
  intro e; have e2 := congrArg List.length e; rw [List.length_take, Nat.min_eq_left h, List.length_nil] at e2; omega
def U64 (n : Int) : Prop := 0 ≤ n ∧ n ≤ 18446744073709551615
theorem mn_u64 {l : List Int} (h : ∀ n ∈ l, U64 n) : U64 (mn l) := by
  by_cases e : l = []
  · subst e; exact ⟨by decide, by decide⟩
  · exact h _ (mn_mem e)

def leastV (l : List Int) : Value := .tuple #[.int .u64 (mn l), .bool (decide (0 < l.length))]

set_option maxRecDepth 100000 in
set_option maxHeartbeats 400000 in
theorem least_any (v : Value) (l : List Int) (w : World) (hs : SliceOf (intE .u64) 1 w v l) :
    Calls Try.prog 76 #[v] w fun e w' => e = .returned (leastV l) ∧ w = w' := by
  obtain ⟨ao, cap, rfl, hcap, hcm, _, hcell⟩ := hs
  have HC := Lib.hid hcell; clear hcell
  go_enter Try.func76, Try.ntmps76
  go_wp2
  go_loopg [4, 9] (l.length + 1) (fun g s4 s9 wr => ∃ i : Nat, s4 = .int .u64 (mn (l.take i)) ∧ s9 = .int .i64 i ∧ i ≤ l.length ∧ l.length + 1 ≤ i + g ∧ w = wr)
  case atStart => exact ⟨0, rfl, rfl, by omega, by omega, rfl⟩
  case round =>
    obtain ⟨i, rfl, rfl, hi, hg, rfl⟩ := hrel
    by_cases hlt : i < l.length
    · obtain ⟨b, off, rfl, hr⟩ := HC.out i hlt
      have hc := hr 0 _ rfl
      rw [Nat.mul_one, Nat.add_zero] at hc
      have hts := take_snoc hlt
      obtain ⟨x, hx⟩ : ∃ x, x = l[i] := ⟨_, rfl⟩
      rw [← hx] at hc hts
      have HT := Lib.hid hts
      clear hr hts hx
      by_cases h0 : i = 0
      · have hib : ((i : Int) == 0) = true := by simp; omega
        have H0 := Lib.hid h0; clear h0
        go_wp2
        go_roundg (gk - 1)
        case rel => exact ⟨i + 1, by rw [HT.out, H0.out]; rfl, by go_num, by omega, by omega, rfl⟩
        case measure => omega
      · have hib : ((i : Int) == 0) = false := by simp; omega
        have hsn := mn_snoc (l.take i) x (take_ne (by omega) hi)
        obtain ⟨m, hm⟩ : ∃ m, m = mn (l.take i) := ⟨_, rfl⟩
        rw [← hm] at hsn
        rw [← hm]
        have HM := Lib.hid hm; have HSN := Lib.hid hsn
        clear hm hsn
        by_cases hx : x < m
        · go_wp2
          go_roundg (gk - 1)
          case rel => exact ⟨i + 1, by rw [HT.out, HSN.out, if_pos hx], by go_num, by omega, by omega, rfl⟩
          case measure => omega
        · go_wp2
          go_roundg (gk - 1)
          case rel => exact ⟨i + 1, by rw [HT.out, HSN.out, if_neg (by omega)], by go_num, by omega, by omega, rfl⟩
          case measure => omega
    · obtain rfl : i = l.length := by omega
      have HE := Lib.hid (List.take_length (l := l))
      go_wp2
      go_ret2
      exact ⟨by rw [HE.out]; exact congrArg (fun b => Ending.returned (.tuple #[_, .bool b])) (by simp), rfl⟩

set_option maxHeartbeats 400000 in
theorem Least_any (v : Value) (l : List Int) (w : World) (hs : SliceOf (intE .u64) 1 w v l) :
    Calls Try.prog 61 #[v] w fun e w' => e = .returned (leastV l) ∧ w = w' := by
  have HS := Lib.hid hs; clear hs
  go_enter Try.func61, Try.ntmps61
  go_wp2_with fail
  refine (least_any _ _ _ HS.out).mono ?_
  rintro e w' ⟨rfl, rfl⟩
  unfold leastV
  go_wp2
  go_ret2
  exact ⟨rfl, rfl⟩

set_option maxRecDepth 100000 in
set_option maxHeartbeats 400000 in
theorem rLeast_any (v : Value) (l : List Int) (w : World) (hs : SliceOf (intE .u64) 1 w v l) :
    Calls Try.prog 62 #[v] w fun e w' => e = .returned (leastV l) ∧ w = w' := by
  obtain ⟨ao, cap, rfl, hcap, hcm, _, hcell⟩ := hs
  have HC := Lib.hid hcell; clear hcell
  go_enter Try.func62, Try.ntmps62
  go_wp2
  go_loopg [4, 5] (l.length + 1) (fun g s4 s5 wr => ∃ i : Nat, s4 = .int .u64 (mn (l.take i)) ∧ s5 = .int .i64 i ∧ i ≤ l.length ∧ l.length + 1 ≤ i + g ∧ w = wr)
  case atStart => exact ⟨0, rfl, rfl, by omega, by omega, rfl⟩
  case round =>
    obtain ⟨i, rfl, rfl, hi, hg, rfl⟩ := hrel
    by_cases hlt : i < l.length
    · obtain ⟨b, off, rfl, hr⟩ := HC.out i hlt
      have hc := hr 0 _ rfl
      rw [Nat.mul_one, Nat.add_zero] at hc
      have hts := take_snoc hlt
      obtain ⟨x, hx⟩ : ∃ x, x = l[i] := ⟨_, rfl⟩
      rw [← hx] at hc hts
      have HT := Lib.hid hts
      clear hr hts hx
      by_cases h0 : i = 0
      · have hib : ((i : Int) == 0) = true := by simp; omega
        have H0 := Lib.hid h0; clear h0
        go_wp2
        go_roundg (gk - 1)
        case rel => exact ⟨i + 1, by rw [HT.out, H0.out]; rfl, by go_num, by omega, by omega, rfl⟩
        case measure => omega
      · have hib : ((i : Int) == 0) = false := by simp; omega
        have hsn := mn_snoc (l.take i) x (take_ne (by omega) hi)
        obtain ⟨m, hm⟩ : ∃ m, m = mn (l.take i) := ⟨_, rfl⟩
        rw [← hm] at hsn
        rw [← hm]
        have HM := Lib.hid hm; have HSN := Lib.hid hsn
        clear hm hsn
        by_cases hx : x < m
        · go_wp2
          go_roundg (gk - 1)
          case rel => exact ⟨i + 1, by rw [HT.out, HSN.out, if_pos hx], by go_num, by omega, by omega, rfl⟩
          case measure => omega
        · go_wp2
          go_roundg (gk - 1)
          case rel => exact ⟨i + 1, by rw [HT.out, HSN.out, if_neg (by omega)], by go_num, by omega, by omega, rfl⟩
          case measure => omega
    · obtain rfl : i = l.length := by omega
      have HE := Lib.hid (List.take_length (l := l))
      go_wp2
      go_ret2
      exact ⟨by rw [HE.out]; exact congrArg (fun b => Ending.returned (.tuple #[_, .bool b])) (by simp), rfl⟩

theorem info_u64 : (Try.prog.info? 36).map (fun i => (i.zero, i.size, i.bytes)) = some (some (.int .u64 0), 1, 8) := by kernel_rfl
theorem intE_one {k : IntKind} (l : List Int) : ∀ y ∈ l, (intE k y).length = 1 ∧ ∀ u ∈ intE k y, u.oneCell' = true := by
  intro y _; exact ⟨rfl, fun u hu => by simp [intE] at hu; subst hu; rfl⟩

set_option maxHeartbeats 400000 in
theorem lowest_any (x : Int) (v : Value) (l : List Int) (w : World) (hs : SliceOf (intE .u64) 1 w v l) (hl : l.length ≤ 1000) :
    Calls Try.prog 77 #[.int .u64 x, v] w fun e w' => e = .returned (.int .u64 (mn (x :: l))) ∧ Below w.heap.size w w' := by
  obtain ⟨i0, hi, hz0, hz1, hz2⟩ := info_parts info_u64
  have HS := Lib.hid (hs.below (w' := w.alloc (.cells #[.int .u64 x] 36)) ((Below.refl _ _).alloc (Nat.le_refl _) _)); clear hs
  have HB := Lib.hid (row_built w #[.int .u64 x] 36 1 1 w.heap.size (Nat.le_refl _) rfl (by decide))
  go_enter Try.func77, Try.ntmps77
  go_wp2_with (at_builtin; refine wpList_append_src rfl (.tmp 9) (.tmp 10) 91 rfl w.heap.size 36 i0 (.int .u64 0) 1 8 Try.underlying91 hi hz0 hz1 hz2 rfl (by decide) _ 1 _ rfl HB.out (intE .u64) l v rfl HS.out (intE_one l) (by unfold maxLen; omega) (by omega) (by simp) ?_; intro v1 w1 hown1 hgr1)
  have hb1 : Below w.heap.size w w1 := ((Below.refl _ _).alloc (Nat.le_refl _) _).grown hgr1 (by simp) (by intro k h; cases h; exact Nat.le_refl _)
  have hsl : SliceOf (intE .u64) 1 w1 v1 (x :: l) := SliceOf.own (B := w.heap.size) (e := 36) (by
    have : 1 + l.length = (x :: l).length := by simp; omega
    rw [← this]; exact hown1) (fun y hy => (intE_one _ y hy).1)
  have HB1 := Lib.hid hb1
  clear hown1 hgr1 hb1
  refine (least_any _ _ _ hsl).mono ?_
  rintro e w' ⟨rfl, rfl⟩
  unfold leastV
  clear hsl
  go_wp2
  go_ret
  exact ⟨rfl, HB1.out⟩

/-- The horizon behind old: marks, and the times of the pins. -/
def hz (old : Int) (marks : List Int) (pins : List (Int × Int × Int)) : Int :=
  if marks.length = 0 then old else max old (mn ((mn marks - min (mn marks) 2) :: pins.map (·.2.1)))
theorem hz_none {old : Int} {marks : List Int} {pins : List (Int × Int × Int)} (h : marks.length = 0) : hz old marks pins = old := if_pos h
theorem hz_some {old : Int} {marks : List Int} {pins : List (Int × Int × Int)} (h : ¬ marks.length = 0) : hz old marks pins = max old (mn ((mn marks - min (mn marks) 2) :: pins.map (·.2.1))) := if_neg h
theorem pinE_one (l : List (Int × Int × Int)) : ∀ y ∈ l, (pinE y).length = 3 ∧ ∀ u ∈ pinE y, u.oneCell' = true := by
  intro y _; exact ⟨rfl, fun u hu => by simp [pinE] at hu; rcases hu with rfl | rfl | rfl <;> rfl⟩

set_option maxRecDepth 100000 in
set_option maxHeartbeats 800000 in
theorem horizon_any (old : Int) (vm vp : Value) (marks : List Int) (pins : List (Int × Int × Int)) (w : World)
    (hm : SliceOf (intE .u64) 1 w vm marks) (hmu : ∀ n ∈ marks, U64 n) (hp : SliceOf pinE 3 w vp pins) (hl : pins.length ≤ 1000) :
    Calls Try.prog 63 #[.int .u64 old, vm, vp] w fun e w' => e = .returned (.int .u64 (hz old marks pins)) ∧ Below w.heap.size w w' := by
  obtain ⟨i0, hi, hz0, hz1, hz2⟩ := info_parts info_u64
  have HM := Lib.hid hm; have HP := Lib.hid hp
  by_cases h0 : marks.length = 0
  · have HZ := Lib.hid (hz_none (old := old) (pins := pins) h0)
    have hb : decide (0 < marks.length) = false := decide_eq_false (by omega)
    clear hm hp h0
    go_enter Try.func63, Try.ntmps63
    go_wp2_with fail
    refine (Least_any _ _ _ HM.out).mono ?_
    rintro e w' ⟨rfl, rfl⟩
    unfold leastV
    rw [hb]
    go_wp2
    go_ret
    exact ⟨by rw [HZ.out]; rfl, Below.refl _ _⟩
  · have HZ := Lib.hid (hz_some (old := old) (pins := pins) h0)
    have hb : decide (0 < marks.length) = true := decide_eq_true (by omega)
    have hu := mn_u64 hmu
    obtain ⟨M, hM⟩ : ∃ M, M = mn marks := ⟨_, rfl⟩
    rw [← hM] at hu
    obtain ⟨u0, u1⟩ := hu
    have HMn := Lib.hid hM
    obtain ⟨ao, cap, rfl, hcap, hcm, _, hcell⟩ := hp
    have HC := Lib.hid hcell
    clear hm h0 hM hcell
    go_enter Try.func63, Try.ntmps63
    go_wp2_with fail
    refine (Least_any _ _ _ HM.out).mono ?_
    rintro e w' ⟨rfl, rfl⟩
    unfold leastV
    rw [hb, ← HMn.out]
    go_wp2_with (at_make; refine wpList_make_own _ rfl (.const (.int .i64 0)) (.tmp 21) 91 rfl w.heap.size 36 i0 (.int .u64 0) 1 Try.underlying91 hi hz0 hz1 .i64 .i64 (pins.length : Int) pins.length rfl rfl rfl (by rw [hz2]; omega) (by unfold maxLen; omega) (Nat.le_refl _) ?_; intro w1 hown1 hgr1)
    have hb1 : Below w.heap.size w w1 := (Below.refl _ _).grown hgr1 (Nat.le_refl _) (by intro k h; cases h)
    go_loopg [9, 25] (pins.length + 1) (fun g s9 s25 wr => ∃ i : Nat, s25 = .int .i64 i ∧ i ≤ pins.length ∧ pins.length + 1 ≤ i + g ∧ wr.ownsRow w.heap.size 36 1 s9 i (((pins.map (·.2.1)).take i).flatMap (intE .u64)) ∧ Below w.heap.size w wr)
    case atStart => exact ⟨0, rfl, by omega, by omega, hown1, hb1⟩
    case round =>
      clear hown1 hgr1 hb1
      obtain ⟨i, rfl, hil, hg, hown, hbel⟩ := hrel
      have HO := Lib.hid hown; have HB := Lib.hid hbel; have hsz := hbel.size
      clear hown hbel
      by_cases hlt : i < pins.length
      · obtain ⟨b, off, rfl, hr⟩ := HC.out i hlt
        have hr1 : wr.rangeAt b (off + i * 3) (pinE pins[i]) := fun j u hu => cell_below HB.out (hr j u hu)
        have hts := take_snoc hlt
        obtain ⟨p, hp⟩ : ∃ p, p = pins[i] := ⟨_, rfl⟩
        rw [← hp] at hr1 hts
        have HT := Lib.hid hts; have HR := Lib.hid hr1
        clear hr hts hr1 hp
        go_wp2_with (first
          | (refine wpList_load_mid rfl 69 (.tmp 27) rfl b (off + i * 3) rfl (pinE p) _ HR.out Try.underlying69 rfl (by kernel_rfl) ?_; unfold pinE)
          | (at_builtin; refine wpList_append_own _ rfl (.tmp 29) (.tmp 32) 91 rfl w.heap.size 36 i0 (.int .u64 0) 1 8 Try.underlying91 hi hz0 hz1 hz2 rfl (by decide) _ i _ rfl ((HO.out.alloc _).alloc _) ⟨wr.heap.size + 1, 0, none⟩ 1 1 [.int .u64 p.2.1] rfl rfl (one_cell_at (by simp) _ _) (by simp [Value.oneCell']) (by unfold maxLen; omega) (by omega) (by simp; omega) ?_; intro v2 w2 hown2 hgr2 _))
        have hts2 : (pins.map (·.2.1)).take (i + 1) = (pins.map (·.2.1)).take i ++ [p.2.1] := by rw [← List.map_take, HT.out, List.map_append, List.map_take]; rfl
        have hown3 : w2.ownsRow w.heap.size 36 1 v2 (i + 1) (((pins.map (·.2.1)).take (i + 1)).flatMap (intE .u64)) := by
          rw [hts2, List.flatMap_append]; exact hown2
        have hbel2 : Below w.heap.size w w2 := ((HB.out.alloc hsz _).alloc (by simp; omega) _).grown hgr2 (by simp; omega) (fun j hj => (HO.out.lt j hj).1)
        clear hown2 hgr2 hts2
        go_roundg (gk - 1)
        case rel => exact ⟨i + 1, by go_num, by omega, by omega, hown3, hbel2⟩
        case measure => omega
      · obtain rfl : i = pins.length := by omega
        have hsl : SliceOf (intE .u64) 1 wr u9 (pins.map (·.2.1)) := SliceOf.own (B := w.heap.size) (e := 36) (by
          have h := HO.out
          rw [List.take_of_length_le (by simp)] at h
          rw [List.length_map]; exact h) (fun y hy => (intE_one _ y hy).1)
        have HS := Lib.hid hsl
        clear hsl
        by_cases hM2 : M < 2
        · have e0 : M - M = 0 := by omega
          have HZ2 := Lib.hid (show hz old marks pins = max old (mn (0 :: pins.map (·.2.1))) by rw [HZ.out, ← HMn.out, show M - min M 2 = 0 by omega])
          clear HZ HMn
          go_wp2_with fail
          refine (lowest_any _ _ _ _ HS.out (by simpa using hl)).mono ?_
          rintro e w2 ⟨rfl, hb2⟩
          go_wp2
          all_goals go_ret
          all_goals exact ⟨ret_int (by rw [HZ2.out]; omega), HB.out.trans (hb2.mono hsz)⟩
        · have hM3 : 2 ≤ M := by omega
          have HZ2 := Lib.hid (show hz old marks pins = max old (mn ((M - 2) :: pins.map (·.2.1))) by rw [HZ.out, ← HMn.out, show M - min M 2 = M - 2 by omega])
          clear HZ HMn hM2
          by_cases hM4 : M = 2
          · obtain rfl : M = 2 := hM4
            have HZ3 := Lib.hid (show hz old marks pins = max old (mn (0 :: pins.map (·.2.1))) from HZ2.out)
            clear HZ2
            go_wp2_with fail
            refine (lowest_any _ _ _ _ HS.out (by simpa using hl)).mono ?_
            rintro e w2 ⟨rfl, hb2⟩
            go_wp2
            all_goals go_ret
            all_goals exact ⟨ret_int (by rw [HZ3.out]; omega), HB.out.trans (hb2.mono hsz)⟩
          · have hM5 : 2 < M := by omega
            clear hM4 hM3
            go_wp2_with fail
            refine (lowest_any _ _ _ _ HS.out (by simpa using hl)).mono ?_
            rintro e w2 ⟨rfl, hb2⟩
            go_wp2
            all_goals go_ret
            all_goals exact ⟨ret_int (by rw [HZ2.out]; omega), HB.out.trans (hb2.mono hsz)⟩
end Go.Proofs.Ytannjgcnemkddaa
