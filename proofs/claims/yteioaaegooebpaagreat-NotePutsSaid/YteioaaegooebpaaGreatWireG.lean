/- Package wire: a reader; its steps. Conditions: texts of at most 2^63-1 bytes. -/
import Derived.Test.YteioaaegooebpaaGreatWireB
import Derived.Test.YteioaaegooebpaaGreatVnB
import Derived.Deep.QuietTactic
import Derived.BigQuiet
import Derived.Deep.RegionHeld3
namespace Go.Proofs.YteioaaegooebpaaGreat
open Go.RowKit Go.PlainAid

/-- A reader that was made: block b. -/
structure Rd (w : World) (b : Nat) (s : ByteArray) (a e : Int) : Prop where
  made : w.cell? ⟨b, 0, none⟩ = some (.bool true)
  txt : w.cell? ⟨b, 1, none⟩ = some (.string s)
  pos : w.cell? ⟨b, 2, none⟩ = some (.int .i64 a)
  err : w.cell? ⟨b, 3, none⟩ = some (.int .i64 e)
  fr2 : w.frozen? ⟨b, 2, none⟩ = false
  fr3 : w.frozen? ⟨b, 3, none⟩ = false
theorem Rd.lt {w : World} {b : Nat} {s : ByteArray} {a e : Int} (h : Rd w b s a e) : b < w.heap.size := World.block_lt_of_cell? w _ h.made
theorem Rd.but {S : Nat → Prop} {w w' : World} {b : Nat} {s : ByteArray} {a e : Int} (h : Rd w b s a e) (hb : But S w w') (hs : ¬ S b) : Rd w' b s a e :=
  ⟨hb.cell hs h.made, hb.cell hs h.txt, hb.cell hs h.pos, hb.cell hs h.err, by rw [hb.frozen h.lt hs]; exact h.fr2, by rw [hb.frozen h.lt hs]; exact h.fr3⟩
theorem Rd.below {w w' : World} {b : Nat} {s : ByteArray} {a e : Int} (h : Rd w b s a e) (hb : Below w.heap.size w w') : Rd w' b s a e := h.but (But.of_below (S := fun _ => False) hb) id
theorem Rd.setPos {w : World} {b : Nat} {s : ByteArray} {a e : Int} (h : Rd w b s a e) (a' : Int) : Rd (w.setCell ⟨b, 2, none⟩ (.int .i64 a')) b s a' e := by
  refine ⟨?_, ?_, World.cell?_setCell_same _ _ _ h.pos, ?_, by rw [World.frozen?_setCell]; exact h.fr2, by rw [World.frozen?_setCell]; exact h.fr3⟩
  · rw [World.cell?_setCell_other _ _ _ _ (by simp)]; exact h.made
  · rw [World.cell?_setCell_other _ _ _ _ (by simp)]; exact h.txt
  · rw [World.cell?_setCell_other _ _ _ _ (by simp)]; exact h.err
theorem Rd.setErr {w : World} {b : Nat} {s : ByteArray} {a e : Int} (h : Rd w b s a e) (e' : Int) : Rd (w.setCell ⟨b, 3, none⟩ (.int .i64 e')) b s a e' := by
  refine ⟨?_, ?_, ?_, World.cell?_setCell_same _ _ _ h.err, by rw [World.frozen?_setCell]; exact h.fr2, by rw [World.frozen?_setCell]; exact h.fr3⟩
  · rw [World.cell?_setCell_other _ _ _ _ (by simp)]; exact h.made
  · rw [World.cell?_setCell_other _ _ _ _ (by simp)]; exact h.txt
  · rw [World.cell?_setCell_other _ _ _ _ (by simp)]; exact h.pos
/-- Only the reader's own block may have turned. -/
def Own (b k : Nat) : Prop := k = b
def thrown (x : Int) : PanicEntry := { v := .iface 23 (.int .i64 x), recovered := false }
def RB (b : Nat) (s : ByteArray) (a : Int) (w w' : World) : Prop := But (Own b) w w' ∧ Rd w' b s a 0
theorem RB.start {b : Nat} {s : ByteArray} {a : Int} {w : World} (h : Rd w b s a 0) : RB b s a w w.drew := ⟨(But.of_below (Below.refl _ _)).draws 1, h.below (Below.refl _ _).drew⟩
theorem RB.to {b : Nat} {s : ByteArray} {a a' : Int} {w w1 w2 : World} (h : RB b s a w w1) (h2 : RB b s a' w1 w2) : RB b s a' w w2 := ⟨h.1.trans h2.1, h2.2⟩
theorem RB.pos {b : Nat} {s : ByteArray} {a : Int} {w w' : World} (h : RB b s a w w') (a' : Int) : RB b s a' w (w'.setCell ⟨b, 2, none⟩ (.int .i64 a')) := ⟨h.1.setCell (p := ⟨b, 2, none⟩) (fun _ => rfl) _, h.2.setPos a'⟩
set_option maxRecDepth 100000 in
set_option maxHeartbeats 1600000 in
theorem rbig_bad (b : Nat) (s : ByteArray) (a : Int) (w : World) (h : Rd w b s a 0) (hs : s.size ≤ 9223372036854775807) (he : (getR s a).2.2 ≠ 0) :
    Calls Tryz.prog 150 #[.pointer (some ⟨b, 0, none⟩)] w fun e w' => e = .panicked [thrown (getR s a).2.2] ∧ RB b s a w w' := by
  have H := Lib.hid (RB.start h)
  have c1 : w.drew.cell? ⟨b, 1, none⟩ = some (.string s) := h.txt
  have c2 : w.drew.cell? ⟨b, 2, none⟩ = some (.int .i64 a) := h.pos
  have K1 := Lib.hid c1; have K2 := Lib.hid c2
  have hg := fun w => get_any s a w hs
  unfold getV at hg
  generalize getR s a = g at he hg ⊢
  obtain ⟨g1, g2, g3⟩ := g
  have hq : (g3 != 0) = true := by simp at he; simp [he]
  have HG := Lib.hid hg
  clear h hg he c1 c2
  go_enter Tryz.func150, Tryz.ntmps150
  go_wp2_with fail
  go_region_held3 (fun w' => w'.cell? ⟨b, 1, none⟩ = some (.string s) ∧ w'.cell? ⟨b, 2, none⟩ = some (.int .i64 a) ∧ RB b s a w w') (first | exact ⟨K1.out, K2.out, H.out⟩ | assumption) (first | (go_at_call 164; (with_reducible refine (HG.out _).mono ?_); rintro e w7 ⟨rfl, rfl⟩))
  have HQ : Hid (RB b s a w _) := Lib.hid (by assumption : _ ∧ _ ∧ RB b s a w _).2.2
  go_wp2
  exact ⟨rfl, rfl, HQ.out⟩
set_option maxRecDepth 100000 in
set_option maxHeartbeats 1600000 in
theorem rbig_good (b : Nat) (s : ByteArray) (a : Int) (w : World) (h : Rd w b s a 0) (hs : s.size ≤ 9223372036854775807) (he : (getR s a).2.2 = 0) :
    Calls Tryz.prog 150 #[.pointer (some ⟨b, 0, none⟩)] w fun e w' => e = .returned (.int .u64 (getR s a).1) ∧ RB b s (getR s a).2.1 w w' := by
  have H := Lib.hid (RB.start h)
  have c1 : w.drew.cell? ⟨b, 1, none⟩ = some (.string s) := h.txt
  have c2 : w.drew.cell? ⟨b, 2, none⟩ = some (.int .i64 a) := h.pos
  have K1 := Lib.hid c1; have K2 := Lib.hid c2
  have hg := fun w => get_any s a w hs
  unfold getV at hg
  generalize getR s a = g at he hg ⊢
  obtain ⟨g1, g2, g3⟩ := g
  simp only at he
  subst he
  have HG := Lib.hid hg
  clear h hg c1 c2
  go_enter Tryz.func150, Tryz.ntmps150
  go_wp2_with fail
  go_region_held3 (fun w' => w'.cell? ⟨b, 1, none⟩ = some (.string s) ∧ w'.cell? ⟨b, 2, none⟩ = some (.int .i64 a) ∧ RB b s a w w') (first | exact ⟨K1.out, K2.out, H.out⟩ | assumption) (first | (go_at_call 164; (with_reducible refine (HG.out _).mono ?_); rintro e w7 ⟨rfl, rfl⟩))
  have HQ : Hid (RB b s a w _) := Lib.hid (by assumption : _ ∧ _ ∧ RB b s a w _).2.2
  have k2 := HQ.out.2.pos; have f2 := HQ.out.2.fr2
  have HQ2 := Lib.hid (HQ.out.pos g2)
  go_wp2
  go_ret
  exact ⟨rfl, HQ2.out⟩
/-- What upTo reads: the number, the place, the error. -/
def upR (s : ByteArray) (a m x : Int) : Int × Int × Int :=
  if (getR s a).2.2 ≠ 0 then (0, a, (getR s a).2.2) else if m < 0 ∨ m < (getR s a).1 then (0, (getR s a).2.1, x) else ((getR s a).1, (getR s a).2.1, 0)
theorem upR_of {s : ByteArray} {a m x g1 g2 g3 : Int} (h : getR s a = (g1, g2, g3)) : upR s a m x = if g3 ≠ 0 then (0, a, g3) else if m < 0 ∨ m < g1 then (0, g2, x) else (g1, g2, 0) := by unfold upR; rw [h]
theorem getR_range (s : ByteArray) (a : Int) : 0 ≤ (getR s a).1 := by
  unfold getR
  split
  · simp
  split
  · simp
  split
  · exact bt_nonneg _ _
  split
  · simp
  split
  · exact val_nonneg _ _ _
  · simp
set_option maxRecDepth 100000 in
set_option maxHeartbeats 1600000 in
theorem upTo_any (b : Nat) (s : ByteArray) (a m x : Int) (w : World) (h : Rd w b s a 0) (hs : s.size ≤ 9223372036854775807) (hm : m ≤ 9223372036854775807) (hx : x ≠ 0) :
    Calls Tryz.prog 118 #[.pointer (some ⟨b, 0, none⟩), .int .i64 m, .int .i64 x] w fun e w' => e = (if (upR s a m x).2.2 = 0 then .returned (.int .i64 (upR s a m x).1) else .panicked [thrown (upR s a m x).2.2]) ∧ RB b s (upR s a m x).2.1 w w' := by
  have hr := getR_range s a
  rcases hg : getR s a with ⟨g1, g2, g3⟩
  rw [hg] at hr
  have hu := upR_of (m := m) (x := x) hg
  simp only at hr
  by_cases he : g3 = 0
  · subst he
    have hb := rbig_good b s a w h hs (by rw [hg])
    rw [hg] at hb
    simp only at hb
    have HG := Lib.hid hb
    clear h hb hg
    rw [if_neg (by simp)] at hu
    by_cases h1 : m < 0 ∨ m < g1
    · rw [if_pos h1] at hu
      rw [hu]
      dsimp only
      rw [if_neg hx]
      clear hu
      go_enter Tryz.func118, Tryz.ntmps118
      rcases (show m < 0 ∨ 0 ≤ m by omega) with h2 | h2
      · go_wp2_with fail
        refine HG.out.mono ?_
        rintro e w1 ⟨rfl, hb⟩
        have HB := Lib.hid hb; clear hb h1
        go_wp2
        exact ⟨rfl, rfl, HB.out⟩
      · have h3 : m < g1 := by omega
        have hwm : IntKind.u64.wrap m = m := u64_nonneg h2 (by omega)
        have h0 : ¬ m < 0 := by omega
        go_wp2_with fail
        refine HG.out.mono ?_
        rintro e w1 ⟨rfl, hb⟩
        have HB := Lib.hid hb; clear hb h1
        go_wp2
        exact ⟨rfl, rfl, HB.out⟩
    · rw [if_neg h1] at hu
      rw [hu]
      dsimp only
      rw [if_pos rfl]
      clear hu
      have h0 : ¬ m < 0 := by omega
      have h3 : ¬ m < g1 := by omega
      have hwm : IntKind.u64.wrap m = m := u64_nonneg (by omega) (by omega)
      have hwg : IntKind.i64.wrap g1 = g1 := IntWalk.i64_in g1 ⟨by omega, by omega⟩
      clear h1
      go_enter Tryz.func118, Tryz.ntmps118
      go_wp2_with fail
      refine HG.out.mono ?_
      rintro e w1 ⟨rfl, hb⟩
      have HB := Lib.hid hb; clear hb
      go_wp2
      go_ret
      exact ⟨rfl, HB.out⟩
  · have hb := rbig_bad b s a w h hs (by rw [hg]; exact he)
    rw [hg] at hb
    simp only at hb
    have HG := Lib.hid hb
    clear h hb hg
    rw [if_pos he] at hu
    rw [hu]
    dsimp only
    rw [if_neg he]
    clear hu
    go_enter Tryz.func118, Tryz.ntmps118
    go_wp2_with fail
    refine HG.out.mono ?_
    rintro e w1 ⟨rfl, hb⟩
    have HB := Lib.hid hb; clear hb
    go_wp2
    exact ⟨rfl, rfl, HB.out⟩
end Go.Proofs.YteioaaegooebpaaGreat
