/- Package agree: the law 'no less'. Conditions: none. -/
import Derived.Test.YtannjgcnemkddaaAgreeD
import Derived.Deep.AppendLies
import Derived.Deep.RegionLaw
namespace Go.Proofs.Ytannjgcnemkddaa
open Go.RowKit Go.PlainAid

theorem mn_mono {l l' : List Int} (hne : l' ≠ []) (h : ∀ y ∈ l', ∃ x ∈ l, x ≤ y) : mn l ≤ mn l' := by
  obtain ⟨x, hx, hle⟩ := h _ (mn_mem hne)
  have := mn_le hx
  omega
theorem mn_rev (l : List Int) : mn l.reverse = mn l := by
  by_cases h : l = []
  · subst h; rfl
  · have h1 := mn_mono (l := l.reverse) (l' := l) h (fun y hy => ⟨y, by simpa using hy, Int.le_refl _⟩)
    have h2 := mn_mono (l := l) (l' := l.reverse) (by simpa using h) (fun y hy => ⟨y, by simpa using hy, Int.le_refl _⟩)
    omega
theorem hz_rev (old : Int) (marks : List Int) (pins : List (Int × Int × Int)) : hz old marks.reverse pins = hz old marks pins := by
  unfold hz; rw [mn_rev, List.length_reverse]
/-- A later mark. -/
def later (more x : Int) : Int := x + min more (18446744073709551615 - x)
theorem hz_later (old more : Int) (h0 : 0 ≤ more) (marks : List Int) (hu : ∀ n ∈ marks, U64 n) (pins : List (Int × Int × Int)) : hz old marks pins ≤ hz old (marks.reverse.map (later more)) pins.tail := by
  by_cases h : marks.length = 0
  · rw [hz_none h, hz_none (by simpa using h)]; omega
  · rw [hz_some h, hz_some (by simpa using h)]
    have hne : marks ≠ [] := fun e => h (by rw [e]; rfl)
    have h1 := mn_mono (l := marks) (l' := marks.reverse.map (later more)) (by simpa using hne) (fun y hy => by
      obtain ⟨x, hx, rfl⟩ := List.mem_map.1 hy
      have hx' : x ∈ marks := by simpa using hx
      have := hu x hx'
      unfold U64 at this
      exact ⟨x, hx', by unfold later; omega⟩)
    have h2 := mn_mono (l := (mn marks - min (mn marks) 2) :: pins.map (·.2.1)) (l' := (mn (marks.reverse.map (later more)) - min (mn (marks.reverse.map (later more))) 2) :: pins.tail.map (·.2.1)) (by simp) (fun y hy => by
      rcases List.mem_cons.1 hy with rfl | hy
      · exact ⟨_, List.mem_cons_self, by omega⟩
      · refine ⟨y, ?_, Int.le_refl _⟩
        obtain ⟨p, hp, rfl⟩ := List.mem_map.1 hy
        exact List.mem_cons_of_mem _ (List.mem_map.2 ⟨p, List.mem_of_mem_tail hp, rfl⟩))
    omega
theorem hz_again (old : Int) (marks : List Int) (pins : List (Int × Int × Int)) : hz (hz old marks pins) marks pins = hz old marks pins := by
  unfold hz; split <;> omega

theorem SliceOf.tail {α : Type} {enc : α → List Value} {sz : Nat} {w : World} {b off cap : Nat} {l : List α} (h : SliceOf enc sz w (.slice (some ⟨b, off, none⟩) l.length cap) l) (h0 : 0 < l.length) :
    (cap = 1 → SliceOf enc sz w (.slice (some ⟨b, off, none⟩) 0 0) l.tail) ∧ SliceOf enc sz w (.slice (some ⟨b, off + sz, none⟩) (l.length - 1) (cap - 1)) l.tail := by
  obtain ⟨ao, cap', hv, h1, h2, h3, h4⟩ := h
  simp only [Value.slice.injEq, true_and] at hv
  obtain ⟨rfl, rfl⟩ := hv
  have ht : l.tail.length = l.length - 1 := by simp
  refine ⟨fun hc => ?_, ?_⟩
  · have e : l.tail = [] := List.eq_nil_of_length_eq_zero (by omega)
    rw [e]
    exact ⟨_, _, rfl, by simp, by omega, fun h => (by cases h), fun j hj => absurd hj (by simp)⟩
  · refine ⟨_, _, by rw [ht], by omega, by omega, fun h => (by cases h), fun j hj => ?_⟩
    obtain ⟨b', off', e, hr⟩ := h4 (j + 1) (by omega)
    cases e
    refine ⟨b, off + sz, rfl, ?_⟩
    rw [show off + sz + j * sz = off + (j + 1) * sz by rw [Nat.add_mul]; omega]
    rw [List.getElem_tail]
    exact hr
theorem later_u64 {more : Int} (h0 : 0 ≤ more) {l : List Int} (hu : ∀ n ∈ l, U64 n) : ∀ n ∈ l.map (later more), U64 n := by
  intro n hn
  obtain ⟨x, hx, rfl⟩ := List.mem_map.1 hn
  have := hu x hx
  unfold U64 later at *
  omega

set_option maxRecDepth 100000 in
set_option maxHeartbeats 1600000 in
theorem more_law (old : Int) (vm : Value) (marks : List Int) (vp : Value) (pins : List (Int × Int × Int)) (more : Int) (w : World) (_h0 : (Lit.int .u64 old).wf = true)
    (hm : SliceOf (intE .u64) 1 w vm marks) (hmw : ∀ n ∈ marks, (Lit.int .u64 n).wf = true) (hp : SliceOf pinE 3 w vp pins) (_hpw : ∀ p ∈ pins, pinOk p) (hmo : (Lit.int .u8 more).wf = true) :
    Calls Try.prog 14 #[.int .u64 old, vm, vp, .int .u8 more] w fun e w' => e = .returned (.bool true) ∧ Below w.heap.size w w' := by
  obtain ⟨i0, hi, hz0, hz1, hz2⟩ := info_parts info_u64
  obtain ⟨m0, m1⟩ := wf_u8 hmo
  have HU := Lib.hid (u64_all hmw)
  have HM := Lib.hid hm; have HP := Lib.hid hp
  obtain ⟨ao, cap, rfl, hc1, hc2, _, hcm⟩ := hm
  obtain ⟨ao2, cap2, rfl, hc3, hc4, hn2, hcp⟩ := hp
  have HCM := Lib.hid hcm; have HCP := Lib.hid hcp; have HN2 := Lib.hid hn2
  clear hmw hcm hcp hn2
  by_cases h1 : 60 < marks.length
  · go_enter Try.func14, Try.ntmps14
    go_wp2_with (go_at_call 60; refine (awake_any _).mono ?_; rintro e w3 ⟨rfl, hb3⟩)
    go_ret
    exact ⟨rfl, hb3⟩
  by_cases h2 : 60 < pins.length
  · go_enter Try.func14, Try.ntmps14
    go_wp2_with (go_at_call 60; refine (awake_any _).mono ?_; rintro e w3 ⟨rfl, hb3⟩)
    go_ret
    exact ⟨rfl, hb3⟩
  · go_enter Try.func14, Try.ntmps14
    go_wp2_with fail
    go_loopg [9, 10, 11] (marks.length + 1) (fun g s9 s10 s11 wr => ∃ k : Nat, s11 = .int .i64 ((marks.length : Int) - 1 - k) ∧ k ≤ marks.length ∧ marks.length + 1 ≤ k + g ∧
      wr.ownsRow w.heap.size 36 1 s9 k ((marks.reverse.take k).flatMap (intE .u64)) ∧ wr.ownsRow w.heap.size 36 1 s10 k (((marks.reverse.map (later more)).take k).flatMap (intE .u64)) ∧
      (∀ g, s9.ownBlock = some g → s10.ownBlock ≠ some g) ∧ Below w.heap.size w wr)
    case atStart => exact ⟨0, by simp, by omega, by omega, World.ownsRow_nil _ _ _ _, World.ownsRow_nil _ _ _ _, by simp [Value.ownBlock], Below.refl _ _⟩
    case round =>
      obtain ⟨k, rfl, hk, hg, hown, hown2, hne, hbel⟩ := hrel
      have HO := Lib.hid hown; have HO2 := Lib.hid hown2; have HNE := Lib.hid hne; have HB := Lib.hid hbel; have hsz := hbel.size
      clear hown hown2 hne hbel
      by_cases hlt : k < marks.length
      · obtain ⟨q, hq⟩ : ∃ q, q = marks.length - 1 - k := ⟨_, rfl⟩
        obtain ⟨b, off, rfl, hr⟩ := HCM.out q (by omega)
        have hc := hr 0 _ rfl
        rw [Nat.mul_one, Nat.add_zero] at hc
        have hU := HU.out _ (List.getElem_mem (show q < marks.length by omega))
        obtain ⟨x, hx⟩ : ∃ x, x = marks[q]'(by omega) := ⟨_, rfl⟩
        rw [← hx] at hc hU
        obtain ⟨x0, x1⟩ := hU
        have e1 : marks.reverse.take (k + 1) = marks.reverse.take k ++ [x] := by
          rw [take_snoc (by simpa using hlt), List.getElem_reverse, hx]; subst hq; rfl
        have e2 : (marks.reverse.map (later more)).take (k + 1) = (marks.reverse.map (later more)).take k ++ [later more x] := by
          rw [take_snoc (by simpa using hlt), List.getElem_map, List.getElem_reverse, hx]; subst hq; rfl
        have E1 := Lib.hid e1; have E2 := Lib.hid e2
        clear hr hx e1 e2
        have k1 := cell_below HB.out hc
        have hlo : (marks.length : Int) - 1 - k = (q : Int) := by omega
        have hq1 : (q : Int) < (marks.length : Int) := by omega
        have hq2 : (0 : Int) ≤ (q : Int) := by omega
        have hq3 : k + q + 1 ≤ marks.length := by omega
        have hq4 : marks.length ≤ k + q + 1 := by omega
        clear hq
        go_wp2_with (at_builtin; go_loud (refine wpList_append_lies _ rfl (.tmp 30) (.tmp 35) 91 rfl w.heap.size 36 i0 (.int .u64 0) 1 8 Try.underlying91 hi hz0 hz1 hz2 rfl (by decide) u9 k _ rfl (HO.out.alloc _) ⟨wr.heap.size, 0, none⟩ 1 1 [.int .u64 x] rfl rfl (one_cell _ _ _) (by simp [Value.oneCell']) (by omega) (by unfold maxLen; omega) (by omega) (by simp; omega) (wr.heap.size + 1) (by simp) ?_); intro g1 cp1 w1 hown1 hgr1 hg1 hg1s)
        have hbel1 : Below w.heap.size w w1 := (HB.out.alloc hsz _).grown hgr1 (by simp; omega) (fun j hj => (HO.out.lt j hj).1)
        have hsz1 := hbel1.size
        have hkept : w1.ownsRow w.heap.size 36 1 u10 k (((marks.reverse.map (later more)).take k).flatMap (intE .u64)) :=
          (HO2.out.alloc _).kept hgr1 (by
            cases h9 : u9.ownBlock with
            | none => exact (by cases u10.ownBlock with | none => exact .inl rfl | some z => exact .inr (by simp))
            | some g => exact .inr (HNE.out g h9))
        have hne1 : u10.ownBlock ≠ some g1 := by
          rcases hg1 with h | h
          · exact HNE.out _ h
          · intro e
            have := (HO2.out.lt _ e).2
            omega
        have hown1b : w1.ownsRow w.heap.size 36 1 (.slice (some ⟨g1, 0, none⟩) (k + 1) cp1) (k + 1) ((marks.reverse.take (k + 1)).flatMap (intE .u64)) := by
          rw [E1.out, List.flatMap_append]; exact hown1
        have HO1 := Lib.hid hown1b; have HK := Lib.hid hkept; have HN1 := Lib.hid hne1; have HB1 := Lib.hid hbel1; have HG1 := Lib.hid hg1s
        have k2 := cell_below hbel1 hc
        clear hown1 hgr1 hg1 hown1b hkept hne1 hbel1 hg1s k1 HO HO2 HNE HB
        have hw1 : IntKind.u64.wrap more = more := PlainAid.u64_nonneg m0 (by omega)
        have hw2 : IntKind.u64.wrap (18446744073709551615 - x) = 18446744073709551615 - x := PlainAid.u64_nonneg (by omega) (by omega)
        have hw3 : IntKind.u64.wrap (x + (18446744073709551615 - x)) = x + (18446744073709551615 - x) := PlainAid.u64_nonneg (by omega) (by omega)
        by_cases hmx : 18446744073709551615 - x < more
        · have hl : later more x = x + (18446744073709551615 - x) := by unfold later; omega
          have HL := Lib.hid hl; clear hl
          go_region_law ((refine step_append_lies _ rfl (.tmp 37) (.tmp 51) 91 rfl w.heap.size 36 i0 (.int .u64 0) 1 8 Try.underlying91 hi hz0 hz1 hz2 rfl (by decide) u10 k _ rfl (HK.out.alloc _) ⟨w1.heap.size, 0, none⟩ 1 1 [.int .u64 (x + (18446744073709551615 - x))] rfl rfl (one_cell _ _ _) (by simp [Value.oneCell']) (by omega) (by unfold maxLen; omega) (by omega) (by simp; omega) (w1.heap.size + 1) (by simp) ?_; intro g2 cp2 w2 hown2 hgr2 hg2 hg2s))
          · have hka := World.ownsRow.kept ((HO1.out.alloc _).drew) hgr2 (.inr (fun e => HN1.out e.symm))
            have hkb : w2.ownsRow w.heap.size 36 1 (.slice (some ⟨g2, 0, none⟩) (k + 1) cp2) (k + 1) (((marks.reverse.map (later more)).take (k + 1)).flatMap (intE .u64)) := by
              rw [E2.out, List.flatMap_append, HL.out]; exact hown2
            have hkc : g1 ≠ g2 := by
              rcases hg2 with h | h
              · intro e; subst e; exact HN1.out h
              · have := HG1.out; omega
            have hkd := (((HB1.out.alloc hsz1 _).drew).grown hgr2 (by simp; omega) (fun j hj => (HK.out.lt j hj).1))
            have HR := Lib.hid (And.intro hka (And.intro hkb (And.intro hkc hkd)))
            clear hown2 hgr2 hg2 hg2s hka hkb hkc hkd
            go_wp2
            go_roundg (gk - 1)
            case rel => exact ⟨k + 1, by go_num, by omega, by omega, HR.out.1, HR.out.2.1, by intro g e1 e2; simp [Value.ownBlock] at e1 e2; exact HR.out.2.2.1 (e1.trans e2.symm), HR.out.2.2.2⟩
            case measure => omega
          · have hka := World.ownsRow.kept ((HO1.out.alloc _).drew) hgr2 (.inr (fun e => HN1.out e.symm))
            have hkb : w2.ownsRow w.heap.size 36 1 (.slice (some ⟨g2, 0, none⟩) (k + 1) cp2) (k + 1) (((marks.reverse.map (later more)).take (k + 1)).flatMap (intE .u64)) := by
              rw [E2.out, List.flatMap_append, HL.out]; exact hown2
            have hkc : g1 ≠ g2 := by
              rcases hg2 with h | h
              · intro e; subst e; exact HN1.out h
              · have := HG1.out; omega
            have hkd := (((HB1.out.alloc hsz1 _).drew).grown hgr2 (by simp; omega) (fun j hj => (HK.out.lt j hj).1))
            have HR := Lib.hid (And.intro hka (And.intro hkb (And.intro hkc hkd)))
            clear hown2 hgr2 hg2 hg2s hka hkb hkc hkd
            go_wp2
            go_roundg (gk - 1)
            case rel => exact ⟨k + 1, by go_num, by omega, by omega, HR.out.1, HR.out.2.1, by intro g e1 e2; simp [Value.ownBlock] at e1 e2; exact HR.out.2.2.1 (e1.trans e2.symm), HR.out.2.2.2⟩
            case measure => omega
          · have hka := World.ownsRow.kept ((HO1.out.alloc _).drew) hgr2 (.inr (fun e => HN1.out e.symm))
            have hkb : w2.ownsRow w.heap.size 36 1 (.slice (some ⟨g2, 0, none⟩) (k + 1) cp2) (k + 1) (((marks.reverse.map (later more)).take (k + 1)).flatMap (intE .u64)) := by
              rw [E2.out, List.flatMap_append, HL.out]; exact hown2
            have hkc : g1 ≠ g2 := by
              rcases hg2 with h | h
              · intro e; subst e; exact HN1.out h
              · have := HG1.out; omega
            have hkd := (((HB1.out.alloc hsz1 _).drew).grown hgr2 (by simp; omega) (fun j hj => (HK.out.lt j hj).1))
            have HR := Lib.hid (And.intro hka (And.intro hkb (And.intro hkc hkd)))
            clear hown2 hgr2 hg2 hg2s hka hkb hkc hkd
            go_wp2
            go_roundg (gk - 1)
            case rel => exact ⟨k + 1, by go_num, by omega, by omega, HR.out.1, HR.out.2.1, by intro g e1 e2; simp [Value.ownBlock] at e1 e2; exact HR.out.2.2.1 (e1.trans e2.symm), HR.out.2.2.2⟩
            case measure => omega
        · have hl : later more x = x + more := by unfold later; omega
          have hw4 : IntKind.u64.wrap (x + more) = x + more := PlainAid.u64_nonneg (by omega) (by omega)
          have HL := Lib.hid hl; clear hl
          go_region_law ((refine step_append_lies _ rfl (.tmp 37) (.tmp 51) 91 rfl w.heap.size 36 i0 (.int .u64 0) 1 8 Try.underlying91 hi hz0 hz1 hz2 rfl (by decide) u10 k _ rfl (HK.out.alloc _) ⟨w1.heap.size, 0, none⟩ 1 1 [.int .u64 (x + more)] rfl rfl (one_cell _ _ _) (by simp [Value.oneCell']) (by omega) (by unfold maxLen; omega) (by omega) (by simp; omega) (w1.heap.size + 1) (by simp) ?_; intro g2 cp2 w2 hown2 hgr2 hg2 hg2s))
          · have hka := World.ownsRow.kept ((HO1.out.alloc _).drew) hgr2 (.inr (fun e => HN1.out e.symm))
            have hkb : w2.ownsRow w.heap.size 36 1 (.slice (some ⟨g2, 0, none⟩) (k + 1) cp2) (k + 1) (((marks.reverse.map (later more)).take (k + 1)).flatMap (intE .u64)) := by
              rw [E2.out, List.flatMap_append, HL.out]; exact hown2
            have hkc : g1 ≠ g2 := by
              rcases hg2 with h | h
              · intro e; subst e; exact HN1.out h
              · have := HG1.out; omega
            have hkd := (((HB1.out.alloc hsz1 _).drew).grown hgr2 (by simp; omega) (fun j hj => (HK.out.lt j hj).1))
            have HR := Lib.hid (And.intro hka (And.intro hkb (And.intro hkc hkd)))
            clear hown2 hgr2 hg2 hg2s hka hkb hkc hkd
            go_wp2
            go_roundg (gk - 1)
            case rel => exact ⟨k + 1, by go_num, by omega, by omega, HR.out.1, HR.out.2.1, by intro g e1 e2; simp [Value.ownBlock] at e1 e2; exact HR.out.2.2.1 (e1.trans e2.symm), HR.out.2.2.2⟩
            case measure => omega
          · have hka := World.ownsRow.kept ((HO1.out.alloc _).drew) hgr2 (.inr (fun e => HN1.out e.symm))
            have hkb : w2.ownsRow w.heap.size 36 1 (.slice (some ⟨g2, 0, none⟩) (k + 1) cp2) (k + 1) (((marks.reverse.map (later more)).take (k + 1)).flatMap (intE .u64)) := by
              rw [E2.out, List.flatMap_append, HL.out]; exact hown2
            have hkc : g1 ≠ g2 := by
              rcases hg2 with h | h
              · intro e; subst e; exact HN1.out h
              · have := HG1.out; omega
            have hkd := (((HB1.out.alloc hsz1 _).drew).grown hgr2 (by simp; omega) (fun j hj => (HK.out.lt j hj).1))
            have HR := Lib.hid (And.intro hka (And.intro hkb (And.intro hkc hkd)))
            clear hown2 hgr2 hg2 hg2s hka hkb hkc hkd
            go_wp2
            go_roundg (gk - 1)
            case rel => exact ⟨k + 1, by go_num, by omega, by omega, HR.out.1, HR.out.2.1, by intro g e1 e2; simp [Value.ownBlock] at e1 e2; exact HR.out.2.2.1 (e1.trans e2.symm), HR.out.2.2.2⟩
            case measure => omega
          · have hka := World.ownsRow.kept ((HO1.out.alloc _).drew) hgr2 (.inr (fun e => HN1.out e.symm))
            have hkb : w2.ownsRow w.heap.size 36 1 (.slice (some ⟨g2, 0, none⟩) (k + 1) cp2) (k + 1) (((marks.reverse.map (later more)).take (k + 1)).flatMap (intE .u64)) := by
              rw [E2.out, List.flatMap_append, HL.out]; exact hown2
            have hkc : g1 ≠ g2 := by
              rcases hg2 with h | h
              · intro e; subst e; exact HN1.out h
              · have := HG1.out; omega
            have hkd := (((HB1.out.alloc hsz1 _).drew).grown hgr2 (by simp; omega) (fun j hj => (HK.out.lt j hj).1))
            have HR := Lib.hid (And.intro hka (And.intro hkb (And.intro hkc hkd)))
            clear hown2 hgr2 hg2 hg2s hka hkb hkc hkd
            go_wp2
            go_roundg (gk - 1)
            case rel => exact ⟨k + 1, by go_num, by omega, by omega, HR.out.1, HR.out.2.1, by intro g e1 e2; simp [Value.ownBlock] at e1 e2; exact HR.out.2.2.1 (e1.trans e2.symm), HR.out.2.2.2⟩
            case measure => omega
      · obtain rfl : k = marks.length := by omega
        have hs9 : SliceOf (intE .u64) 1 wr u9 marks.reverse := SliceOf.own (B := w.heap.size) (e := 36) (by
          have h := HO.out
          rw [List.take_of_length_le (by simp)] at h
          rw [List.length_reverse]; exact h) (fun y _ => rfl)
        have hs10 : SliceOf (intE .u64) 1 wr u10 (marks.reverse.map (later more)) := SliceOf.own (B := w.heap.size) (e := 36) (by
          have h := HO2.out
          rw [List.take_of_length_le (by simp)] at h
          rw [List.length_map, List.length_reverse]; exact h) (fun y _ => rfl)
        have HS9 := Lib.hid hs9; have HS10 := Lib.hid hs10
        have HM1 := Lib.hid (HM.out.below HB.out); have HP1 := Lib.hid (HP.out.below HB.out)
        clear hs9 hs10 HO HO2 HNE
        have hneg : ((marks.length : Int) - 1 - marks.length) = -1 := by omega
        go_wp2_with fail
        refine (horizon_any _ _ _ _ _ _ HM1.out HU.out HP1.out (by omega)).mono ?_
        rintro e w2 ⟨rfl, hb2⟩
        obtain ⟨Hh, hHh⟩ : ∃ Hh, Hh = hz old marks pins := ⟨_, rfl⟩
        obtain ⟨Ll, hLl⟩ : ∃ Ll, Ll = hz old (marks.reverse.map (later more)) pins.tail := ⟨_, rfl⟩
        have hlat : Hh ≤ Ll := by rw [hHh, hLl]; exact hz_later old more m0 marks HU.out pins
        have hag : hz Hh marks pins = Hh := by rw [hHh]; exact hz_again _ _ _
        rw [← hHh]
        have HHh := Lib.hid hHh; have HLl := Lib.hid hLl; have HAG := Lib.hid hag
        clear hHh hLl hag
        have HB2 := Lib.hid (HB.out.trans (hb2.mono hsz))
        have HS9b := Lib.hid (HS9.out.below hb2); have HS10b := Lib.hid (HS10.out.below hb2)
        have HMb := Lib.hid (HM1.out.below hb2); have HPb := Lib.hid (HP1.out.below hb2)
        clear hb2 HS9 HS10 HM1 HP1
        by_cases hp0 : 0 < pins.length
        · obtain ⟨b, off, rfl, _⟩ := HCP.out 0 hp0
          by_cases hcap : cap2 = 1
          · obtain rfl : cap2 = 1 := hcap
            go_wp2_with fail
            refine (horizon_any _ _ _ _ _ _ HS9b.out (fun n hn => HU.out n (by simpa using hn)) HPb.out (by omega)).mono ?_
            rintro e w3 ⟨rfl, hb3⟩
            rw [hz_rev, ← HHh.out]
            have HS10c := Lib.hid (HS10b.out.below hb3); have HMc := Lib.hid (HMb.out.below hb3); have HPc := Lib.hid (HPb.out.below hb3)
            have HB3 := Lib.hid (HB2.out.trans (hb3.mono HB2.out.size))
            clear hb3 HS9b HS10b HMb HPb HB2
            go_wp2_with fail
            refine (horizon_any _ _ _ _ pins.tail _ HS10c.out (later_u64 m0 (fun n hn => HU.out n (by simpa using hn))) ((HPc.out.tail hp0).1 rfl) (by have := List.length_tail (l := pins); omega)).mono ?_
            rintro e w4 ⟨rfl, hb4⟩; rw [← HLl.out]
            have HMd := Lib.hid (HMc.out.below hb4); have HPd := Lib.hid (HPc.out.below hb4)
            have HB4 := Lib.hid (HB3.out.trans (hb4.mono HB3.out.size))
            clear hb4 HS10c HMc HPc HB3
            go_wp2_with fail
            refine (horizon_any _ _ _ _ _ _ HMd.out HU.out HPd.out (by omega)).mono ?_
            rintro e w5 ⟨rfl, hb5⟩
            rw [HAG.out]
            have HB5 := Lib.hid (HB4.out.trans (hb5.mono HB4.out.size))
            clear hb5
            go_wp2_with (go_at_call 60; refine (awake_any _).mono ?_; rintro e w6 ⟨rfl, hb6⟩)
            go_ret
            exact ⟨rfl, HB5.out.trans (hb6.mono HB5.out.size)⟩
          · have hcap1 : ((cap2 : Int) == 1) = false := by simp; omega
            go_wp2_with fail
            refine (horizon_any _ _ _ _ _ _ HS9b.out (fun n hn => HU.out n (by simpa using hn)) HPb.out (by omega)).mono ?_
            rintro e w3 ⟨rfl, hb3⟩
            rw [hz_rev, ← HHh.out]
            have HS10c := Lib.hid (HS10b.out.below hb3); have HMc := Lib.hid (HMb.out.below hb3); have HPc := Lib.hid (HPb.out.below hb3)
            have HB3 := Lib.hid (HB2.out.trans (hb3.mono HB2.out.size))
            clear hb3 HS9b HS10b HMb HPb HB2
            go_wp2_with fail
            refine (horizon_any _ _ _ _ pins.tail _ HS10c.out (later_u64 m0 (fun n hn => HU.out n (by simpa using hn))) ((HPc.out.tail hp0).2) (by have := List.length_tail (l := pins); omega)).mono ?_
            rintro e w4 ⟨rfl, hb4⟩; rw [← HLl.out]
            have HMd := Lib.hid (HMc.out.below hb4); have HPd := Lib.hid (HPc.out.below hb4)
            have HB4 := Lib.hid (HB3.out.trans (hb4.mono HB3.out.size))
            clear hb4 HS10c HMc HPc HB3
            go_wp2_with fail
            refine (horizon_any _ _ _ _ _ _ HMd.out HU.out HPd.out (by omega)).mono ?_
            rintro e w5 ⟨rfl, hb5⟩
            rw [HAG.out]
            have HB5 := Lib.hid (HB4.out.trans (hb5.mono HB4.out.size))
            clear hb5
            go_wp2_with (go_at_call 60; refine (awake_any _).mono ?_; rintro e w6 ⟨rfl, hb6⟩)
            go_ret
            exact ⟨rfl, HB5.out.trans (hb6.mono HB5.out.size)⟩
        · have hnil : pins = [] := List.eq_nil_of_length_eq_zero (by omega)
          have HPx : Hid (∀ W, SliceOf pinE 3 W (.slice ao2 pins.length cap2) pins → SliceOf pinE 3 W (.slice ao2 pins.length cap2) pins.tail) := by subst hnil; exact fun _ h => h
          clear hnil
          have hcap1 : True := trivial
          go_wp2_with fail
          refine (horizon_any _ _ _ _ _ _ HS9b.out (fun n hn => HU.out n (by simpa using hn)) HPb.out (by omega)).mono ?_
          rintro e w3 ⟨rfl, hb3⟩
          rw [hz_rev, ← HHh.out]
          have HS10c := Lib.hid (HS10b.out.below hb3); have HMc := Lib.hid (HMb.out.below hb3); have HPc := Lib.hid (HPb.out.below hb3)
          have HB3 := Lib.hid (HB2.out.trans (hb3.mono HB2.out.size))
          clear hb3 HS9b HS10b HMb HPb HB2
          go_wp2_with fail
          refine (horizon_any _ _ _ _ pins.tail _ HS10c.out (later_u64 m0 (fun n hn => HU.out n (by simpa using hn))) (HPx.out _ HPc.out) (by have := List.length_tail (l := pins); omega)).mono ?_
          rintro e w4 ⟨rfl, hb4⟩; rw [← HLl.out]
          have HMd := Lib.hid (HMc.out.below hb4); have HPd := Lib.hid (HPc.out.below hb4)
          have HB4 := Lib.hid (HB3.out.trans (hb4.mono HB3.out.size))
          clear hb4 HS10c HMc HPc HB3
          go_wp2_with fail
          refine (horizon_any _ _ _ _ _ _ HMd.out HU.out HPd.out (by omega)).mono ?_
          rintro e w5 ⟨rfl, hb5⟩
          rw [HAG.out]
          have HB5 := Lib.hid (HB4.out.trans (hb5.mono HB4.out.size))
          clear hb5
          go_wp2_with (go_at_call 60; refine (awake_any _).mono ?_; rintro e w6 ⟨rfl, hb6⟩)
          go_ret
          exact ⟨rfl, HB5.out.trans (hb6.mono HB5.out.size)⟩
end Go.Proofs.Ytannjgcnemkddaa
