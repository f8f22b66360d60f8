/- Package tree, of lists of cells: New, Get; what one that nobody made answers. Conditions: none. -/
import Derived.Test.YtfjhlckklgeokaaTrcH
namespace Go.Proofs.Ytfjhlckklgeokaa
open Go.RowKit Go.PlainAid Go.Shelf
set_option linter.unusedVariables false
set_option maxRecDepth 100000
set_option maxHeartbeats 2000000
theorem tnew_any (w : World) : Calls Try.prog 24 #[] w fun e w' => ∃ (S : Nat → Prop), e = .returned (pt w.heap.size 0) ∧ TrO S w' w.heap.size [] 0 ∧ (∀ q, S q → w.heap.size ≤ q) ∧ Below w.heap.size w w' := by
  go_enter Try.func24, Try.ntmps24
  go_wp2
  go_ret
  exact ⟨fun q => q = w.heap.size, rfl, ⟨.nil, World.alloc_heap_new w _, trivial, by simp [bk], by simp [bk], trivial, by simp [il, Srt], rfl, rfl, fun q => by simp [bk]⟩, fun q h => by rw [h]; exact Nat.le_refl _, (Below.refl _ w).alloc (Nat.le_refl _) _⟩
theorem ptT_nl : ptT .nil = .pointer none := rfl
theorem ptT_nd (b : Nat) (l : Tm) (k : ByteArray) (v : SlT) (d : Int) (r : Tm) : ptT (.nd b l k v d r) = pt b 0 := rfl
theorem getL_il : ∀ (b : Nat) (l : Tm) (k' : ByteArray) (v' : SlT) (d : Int) (r : Tm) (k : ByteArray), Srt (il (.nd b l k' v' d r)) →
    Srt (il l) ∧ Srt (il r) ∧ (klt k k' = true → getL (il (.nd b l k' v' d r)) k = getL (il l) k ∧ hasL (il (.nd b l k' v' d r)) k = hasL (il l) k) ∧
    (klt k k' = false → klt k' k = true → getL (il (.nd b l k' v' d r)) k = getL (il r) k ∧ hasL (il (.nd b l k' v' d r)) k = hasL (il r) k) ∧
    (klt k k' = false → klt k' k = false → getL (il (.nd b l k' v' d r)) k = v' ∧ hasL (il (.nd b l k' v' d r)) k = true) := fun b l k' v' d r k h => by
  obtain ⟨hl, hr, h1, h2⟩ := Srt.parts h
  show Srt (il l) ∧ Srt (il r) ∧ (klt k k' = true → getL (il l ++ (k', v') :: il r) k = getL (il l) k ∧ hasL (il l ++ (k', v') :: il r) k = hasL (il l) k) ∧ (klt k k' = false → klt k' k = true → getL (il l ++ (k', v') :: il r) k = getL (il r) k ∧ hasL (il l ++ (k', v') :: il r) k = hasL (il r) k) ∧ (klt k k' = false → klt k' k = false → getL (il l ++ (k', v') :: il r) k = v' ∧ hasL (il l ++ (k', v') :: il r) k = true)
  refine ⟨hl, hr, fun q => ⟨getL_l (a := (k', v')) q, hasL_l (a := (k', v')) q⟩, fun q1 q2 => ?_, fun q1 q2 => ?_⟩
  · rw [getL_r (fun c hc => klt_tr (h1 c hc) q2), hasL_r (fun c hc => klt_tr (h1 c hc) q2)]
    simp [getL, hasL, q1, q2]
  · have e := klt_eq q1 q2; subst e
    rw [getL_r h1, hasL_r h1]
    simp [getL, hasL, klt_irr]
theorem tget_any (S : Nat → Prop) (w : World) (tb : Nat) (L : List Kv) (d : Int) (k : ByteArray) (h : TrO S w tb L d) :
    Calls Try.prog 27 #[pt tb 0, .string k] w fun e w' => e = .returned (.tuple #[.slice (getL L k).a (getL L k).n (getL L k).c, .bool (hasL L k)]) ∧ w = w' := by
  obtain ⟨t, h1, h2, h3, h4, h5, h6, rfl, h8, h9⟩ := h
  have c1 : w.cell? ⟨tb, 1, none⟩ = some (ptT t) := h1.cell (k := 1) rfl
  obtain ⟨L, hLL⟩ : ∃ L, L = il t := ⟨_, rfl⟩
  rw [← hLL] at h6 ⊢
  have H1 := Lib.hid h1; have H2 := Lib.hid h2; have H6 := Lib.hid h6; have HLL := Lib.hid hLL; clear h1 h2 h3 h4 h5 h6 h8 h9 hLL
  go_enter Try.func27, Try.ntmps27
  go_wp2_with fail
  refine (zero_made tb _ _ _ H1.out).mono ?_
  rintro e w1 ⟨rfl, rfl⟩
  go_wp2
  go_loopg [7] (sz t + 1) (fun g s7 wr => ∃ c : Tm, s7 = ptT c ∧ wr = w ∧ TreeAt w c ∧ Srt (il c) ∧ (sz c : Int) + 1 ≤ g ∧ getL (il c) k = getL L k ∧ hasL (il c) k = hasL L k)
  case atStart => exact ⟨t, rfl, rfl, H2.out, HLL.out ▸ H6.out, by omega, by rw [HLL.out], by rw [HLL.out]⟩
  case round =>
    obtain ⟨c, rfl, rfl, hc, hs, hg, hgl, hhl⟩ := hrel
    cases c with
    | nil =>
      simp only [ptT_nl]
      have HG := Lib.hid hgl; have HH := Lib.hid hhl; clear hgl hhl hg hs hc
      go_wp2
      go_ret2
      exact ⟨by rw [← HG.out, ← HH.out]; rfl, rfl⟩
    | nd b l k' v' d' r =>
      obtain ⟨hB, hl, hr⟩ := hc
      obtain ⟨s1, s2, e1, e2, e3⟩ := getL_il b l k' v' d' r k hs
      have q0 : wr.cell? ⟨b, 0, none⟩ = some (.string k') := hB.cell (k := 0) rfl
      have q1 : wr.cell? ⟨b, 1, none⟩ = some (.slice v'.a v'.n v'.c) := hB.cell (k := 1) rfl
      have q3 : wr.cell? ⟨b, 3, none⟩ = some (ptT l) := hB.cell (k := 3) rfl
      have q4 : wr.cell? ⟨b, 4, none⟩ = some (ptT r) := hB.cell (k := 4) rfl
      have hz : (sz (.nd b l k' v' d' r) : Int) = 1 + sz l + sz r := by simp [sz]
      have hg' : (1 + sz l + sz r : Int) + 1 ≤ gk := by rw [hz] at hg; exact hg
      have HGL := Lib.hid hgl; have HHL := Lib.hid hhl; have HL := Lib.hid hl; have HR := Lib.hid hr; have HS1 := Lib.hid s1; have HS2 := Lib.hid s2; have E1 := Lib.hid e1; have E2 := Lib.hid e2; have E3 := Lib.hid e3
      clear hgl hhl hl hr s1 s2 e1 e2 e3 hB hs hg hz
      simp only [ptT_nd]
      cases x1 : klt k k' with
      | true =>
        have x1' : Op.bytesLess k.toList k'.toList = true := x1
        have X1 := Lib.hid x1; clear x1
        go_wp2
        go_roundg (gk - 1)
        case rel => exact ⟨l, rfl, rfl, HL.out, HS1.out, by omega, by rw [← (E1.out X1.out).1]; exact HGL.out, by rw [← (E1.out X1.out).2]; exact HHL.out⟩
        case measure => omega
      | false =>
        have x1' : Op.bytesLess k.toList k'.toList = false := x1
        have X1 := Lib.hid x1; clear x1
        cases x2 : klt k' k with
        | true =>
          have x2' : (!(Op.bytesLess k.toList k'.toList || k.toList == k'.toList)) = true := by rw [tbl_flip]; simpa [klt] using x2
          have x3 : (k.toList == k'.toList) = false := by rw [x1'] at x2'; simpa using x2'
          have X2 := Lib.hid x2; clear x2
          go_wp2
          go_roundg (gk - 1)
          case rel => exact ⟨r, rfl, rfl, HR.out, HS2.out, by omega, by rw [← (E2.out X1.out X2.out).1]; exact HGL.out, by rw [← (E2.out X1.out X2.out).2]; exact HHL.out⟩
          case measure => omega
        | false =>
          have x2' : (!(Op.bytesLess k.toList k'.toList || k.toList == k'.toList)) = false := by rw [tbl_flip]; simpa [klt] using x2
          have x3 : (k.toList == k'.toList) = true := by rw [x1'] at x2'; simpa using x2'
          have X2 := Lib.hid x2; clear x2
          go_wp2
          go_ret2
          exact ⟨by rw [← HGL.out, ← HHL.out, (E3.out X1.out X2.out).1, (E3.out X1.out X2.out).2]; rfl, rfl⟩
end Go.Proofs.Ytfjhlckklgeokaa
