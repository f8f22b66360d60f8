/- Put together: WireG, WireH, WireI, WireJ, WireK, WireL. Conditions: as each says. -/
import Derived.Test.YthmljllgfigebaaLb2
import Derived.Test.YthmljllgfigebaaVnB
import Derived.Deep.QuietTactic
import Derived.BigQuiet
import Derived.Deep.RegionHeld3
import Derived.Test.YthmljllgfigebaaStrOps
/- Package wire: a reader; its steps. Conditions: texts of at most 2^63-1 bytes. -/
namespace Go.Proofs.Ythmljllgfigebaa
open Go.RowKit Go.PlainAid

/-- A reader that was made: block b. -/
structure Rd (w : World) (b : Nat) (s : ByteArray) (a e : Int) : Prop where
  made : w.cell? ⟨b, 0, none⟩ = some (.bool true)
  txt : w.cell? ⟨b, 1, none⟩ = some (.string s)
  pos : w.cell? ⟨b, 2, none⟩ = some (.int .i64 a)
  err : w.cell? ⟨b, 3, none⟩ = some (.int .i64 e)
  fr2 : w.frozen? ⟨b, 2, none⟩ = false
  fr3 : w.frozen? ⟨b, 3, none⟩ = false
theorem Rd.lt {w : World} {b : Nat} {s : ByteArray} {a e : Int} (h : Rd w b s a e) : b < w.heap.size := World.block_lt_of_cell? w _ h.made
theorem Rd.but {S : Nat → Prop} {w w' : World} {b : Nat} {s : ByteArray} {a e : Int} (h : Rd w b s a e) (hb : But S w w') (hs : ¬ S b) : Rd w' b s a e :=
  ⟨hb.cell hs h.made, hb.cell hs h.txt, hb.cell hs h.pos, hb.cell hs h.err, by rw [hb.frozen h.lt hs]; exact h.fr2, by rw [hb.frozen h.lt hs]; exact h.fr3⟩
theorem Rd.below {w w' : World} {b : Nat} {s : ByteArray} {a e : Int} (h : Rd w b s a e) (hb : Below w.heap.size w w') : Rd w' b s a e := h.but (But.of_below (S := fun _ => False) hb) id
theorem Rd.setPos {w : World} {b : Nat} {s : ByteArray} {a e : Int} (h : Rd w b s a e) (a' : Int) : Rd (w.setCell ⟨b, 2, none⟩ (.int .i64 a')) b s a' e := by
  refine ⟨?_, ?_, World.cell?_setCell_same _ _ _ h.pos, ?_, by rw [World.frozen?_setCell]; exact h.fr2, by rw [World.frozen?_setCell]; exact h.fr3⟩
  · rw [World.cell?_setCell_other _ _ _ _ (by simp)]; exact h.made
  · rw [World.cell?_setCell_other _ _ _ _ (by simp)]; exact h.txt
  · rw [World.cell?_setCell_other _ _ _ _ (by simp)]; exact h.err
theorem Rd.setErr {w : World} {b : Nat} {s : ByteArray} {a e : Int} (h : Rd w b s a e) (e' : Int) : Rd (w.setCell ⟨b, 3, none⟩ (.int .i64 e')) b s a e' := by
  refine ⟨?_, ?_, ?_, World.cell?_setCell_same _ _ _ h.err, by rw [World.frozen?_setCell]; exact h.fr2, by rw [World.frozen?_setCell]; exact h.fr3⟩
  · rw [World.cell?_setCell_other _ _ _ _ (by simp)]; exact h.made
  · rw [World.cell?_setCell_other _ _ _ _ (by simp)]; exact h.txt
  · rw [World.cell?_setCell_other _ _ _ _ (by simp)]; exact h.pos
/-- Only the reader's own block may have turned. -/
def Own (b k : Nat) : Prop := k = b
def thrown (x : Int) : PanicEntry := { v := .iface 54 (.int .i64 x), recovered := false }
def RB (b : Nat) (s : ByteArray) (a : Int) (w w' : World) : Prop := But (Own b) w w' ∧ Rd w' b s a 0
theorem RB.start {b : Nat} {s : ByteArray} {a : Int} {w : World} (h : Rd w b s a 0) : RB b s a w w.drew := ⟨(But.of_below (Below.refl _ _)).draws 1, h.below (Below.refl _ _).drew⟩
theorem RB.to {b : Nat} {s : ByteArray} {a a' : Int} {w w1 w2 : World} (h : RB b s a w w1) (h2 : RB b s a' w1 w2) : RB b s a' w w2 := ⟨h.1.trans h2.1, h2.2⟩
theorem RB.pos {b : Nat} {s : ByteArray} {a : Int} {w w' : World} (h : RB b s a w w') (a' : Int) : RB b s a' w (w'.setCell ⟨b, 2, none⟩ (.int .i64 a')) := ⟨h.1.setCell (p := ⟨b, 2, none⟩) (fun _ => rfl) _, h.2.setPos a'⟩
set_option maxRecDepth 100000 in
set_option maxHeartbeats 1600000 in
theorem rbig_bad (b : Nat) (s : ByteArray) (a : Int) (w : World) (h : Rd w b s a 0) (hs : s.size ≤ 9223372036854775807) (he : (getR s a).2.2 ≠ 0) :
    Calls Try.prog 134 #[.pointer (some ⟨b, 0, none⟩)] w fun e w' => e = .panicked [thrown (getR s a).2.2] ∧ RB b s a w w' := by
  have H := Lib.hid (RB.start h)
  have c1 : w.drew.cell? ⟨b, 1, none⟩ = some (.string s) := h.txt
  have c2 : w.drew.cell? ⟨b, 2, none⟩ = some (.int .i64 a) := h.pos
  have K1 := Lib.hid c1; have K2 := Lib.hid c2
  have hg := fun w => get_any s a w hs
  unfold getV at hg
  generalize getR s a = g at he hg ⊢
  obtain ⟨g1, g2, g3⟩ := g
  have hq : (g3 != 0) = true := by simp at he; simp [he]
  have HG := Lib.hid hg
  clear h hg he c1 c2
  go_enter Try.func134, Try.ntmps134
  go_wp2_with fail
  go_region_held3 (fun w' => w'.cell? ⟨b, 1, none⟩ = some (.string s) ∧ w'.cell? ⟨b, 2, none⟩ = some (.int .i64 a) ∧ RB b s a w w') (first | exact ⟨K1.out, K2.out, H.out⟩ | assumption) (first | (go_at_call 138; (with_reducible refine (HG.out _).mono ?_); rintro e w7 ⟨rfl, rfl⟩))
  have HQ : Hid (RB b s a w _) := Lib.hid (by assumption : _ ∧ _ ∧ RB b s a w _).2.2
  go_wp2
  exact ⟨rfl, rfl, HQ.out⟩
set_option maxRecDepth 100000 in
set_option maxHeartbeats 1600000 in
theorem rbig_good (b : Nat) (s : ByteArray) (a : Int) (w : World) (h : Rd w b s a 0) (hs : s.size ≤ 9223372036854775807) (he : (getR s a).2.2 = 0) :
    Calls Try.prog 134 #[.pointer (some ⟨b, 0, none⟩)] w fun e w' => e = .returned (.int .u64 (getR s a).1) ∧ RB b s (getR s a).2.1 w w' := by
  have H := Lib.hid (RB.start h)
  have c1 : w.drew.cell? ⟨b, 1, none⟩ = some (.string s) := h.txt
  have c2 : w.drew.cell? ⟨b, 2, none⟩ = some (.int .i64 a) := h.pos
  have K1 := Lib.hid c1; have K2 := Lib.hid c2
  have hg := fun w => get_any s a w hs
  unfold getV at hg
  generalize getR s a = g at he hg ⊢
  obtain ⟨g1, g2, g3⟩ := g
  simp only at he
  subst he
  have HG := Lib.hid hg
  clear h hg c1 c2
  go_enter Try.func134, Try.ntmps134
  go_wp2_with fail
  go_region_held3 (fun w' => w'.cell? ⟨b, 1, none⟩ = some (.string s) ∧ w'.cell? ⟨b, 2, none⟩ = some (.int .i64 a) ∧ RB b s a w w') (first | exact ⟨K1.out, K2.out, H.out⟩ | assumption) (first | (go_at_call 138; (with_reducible refine (HG.out _).mono ?_); rintro e w7 ⟨rfl, rfl⟩))
  have HQ : Hid (RB b s a w _) := Lib.hid (by assumption : _ ∧ _ ∧ RB b s a w _).2.2
  have k2 := HQ.out.2.pos; have f2 := HQ.out.2.fr2
  have HQ2 := Lib.hid (HQ.out.pos g2)
  go_wp2
  go_ret
  exact ⟨rfl, HQ2.out⟩
/-- What upTo reads: the number, the place, the error. -/
def upR (s : ByteArray) (a m x : Int) : Int × Int × Int :=
  if (getR s a).2.2 ≠ 0 then (0, a, (getR s a).2.2) else if m < 0 ∨ m < (getR s a).1 then (0, (getR s a).2.1, x) else ((getR s a).1, (getR s a).2.1, 0)
theorem upR_of {s : ByteArray} {a m x g1 g2 g3 : Int} (h : getR s a = (g1, g2, g3)) : upR s a m x = if g3 ≠ 0 then (0, a, g3) else if m < 0 ∨ m < g1 then (0, g2, x) else (g1, g2, 0) := by unfold upR; rw [h]
theorem getR_range (s : ByteArray) (a : Int) : 0 ≤ (getR s a).1 := by
  unfold getR
  split
  · simp
  split
  · simp
  split
  · exact bt_nonneg _ _
  split
  · simp
  split
  · exact val_nonneg _ _ _
  · simp
set_option maxRecDepth 100000 in
set_option maxHeartbeats 1600000 in
theorem upTo_any (b : Nat) (s : ByteArray) (a m x : Int) (w : World) (h : Rd w b s a 0) (hs : s.size ≤ 9223372036854775807) (hm : m ≤ 9223372036854775807) (hx : x ≠ 0) :
    Calls Try.prog 118 #[.pointer (some ⟨b, 0, none⟩), .int .i64 m, .int .i64 x] w fun e w' => e = (if (upR s a m x).2.2 = 0 then .returned (.int .i64 (upR s a m x).1) else .panicked [thrown (upR s a m x).2.2]) ∧ RB b s (upR s a m x).2.1 w w' := by
  have hr := getR_range s a
  rcases hg : getR s a with ⟨g1, g2, g3⟩
  rw [hg] at hr
  have hu := upR_of (m := m) (x := x) hg
  simp only at hr
  by_cases he : g3 = 0
  · subst he
    have hb := rbig_good b s a w h hs (by rw [hg])
    rw [hg] at hb
    simp only at hb
    have HG := Lib.hid hb
    clear h hb hg
    rw [if_neg (by simp)] at hu
    by_cases h1 : m < 0 ∨ m < g1
    · rw [if_pos h1] at hu
      rw [hu]
      dsimp only
      rw [if_neg hx]
      clear hu
      go_enter Try.func118, Try.ntmps118
      rcases (show m < 0 ∨ 0 ≤ m by omega) with h2 | h2
      · go_wp2_with fail
        refine HG.out.mono ?_
        rintro e w1 ⟨rfl, hb⟩
        have HB := Lib.hid hb; clear hb h1
        go_wp2
        exact ⟨rfl, rfl, HB.out⟩
      · have h3 : m < g1 := by omega
        have hwm : IntKind.u64.wrap m = m := u64_nonneg h2 (by omega)
        have h0 : ¬ m < 0 := by omega
        go_wp2_with fail
        refine HG.out.mono ?_
        rintro e w1 ⟨rfl, hb⟩
        have HB := Lib.hid hb; clear hb h1
        go_wp2
        exact ⟨rfl, rfl, HB.out⟩
    · rw [if_neg h1] at hu
      rw [hu]
      dsimp only
      rw [if_pos rfl]
      clear hu
      have h0 : ¬ m < 0 := by omega
      have h3 : ¬ m < g1 := by omega
      have hwm : IntKind.u64.wrap m = m := u64_nonneg (by omega) (by omega)
      have hwg : IntKind.i64.wrap g1 = g1 := IntWalk.i64_in g1 ⟨by omega, by omega⟩
      clear h1
      go_enter Try.func118, Try.ntmps118
      go_wp2_with fail
      refine HG.out.mono ?_
      rintro e w1 ⟨rfl, hb⟩
      have HB := Lib.hid hb; clear hb
      go_wp2
      go_ret
      exact ⟨rfl, HB.out⟩
  · have hb := rbig_bad b s a w h hs (by rw [hg]; exact he)
    rw [hg] at hb
    simp only at hb
    have HG := Lib.hid hb
    clear h hb hg
    rw [if_pos he] at hu
    rw [hu]
    dsimp only
    rw [if_neg he]
    clear hu
    go_enter Try.func118, Try.ntmps118
    go_wp2_with fail
    refine HG.out.mono ?_
    rintro e w1 ⟨rfl, hb⟩
    have HB := Lib.hid hb; clear hb
    go_wp2
    exact ⟨rfl, rfl, HB.out⟩
end Go.Proofs.Ythmljllgfigebaa

/- Package wire: a reader's take. Conditions: none. -/
namespace Go.Proofs.Ythmljllgfigebaa
open Go.RowKit Go.PlainAid

set_option maxRecDepth 100000 in
set_option maxHeartbeats 1600000 in
theorem rcatch_idle (p : Addr) (w : World) :
    CallsD Try.prog 133 #[.pointer (some p)] .returning w fun e u' w' => e = .returned (.tuple #[]) ∧ u' = .returning ∧ w' = w := by
  refine callsD_of_wpS Try.func133 rfl fun c₀ cs hu => ?_
  apply wpS_seq
  apply wpS_region
  simp [wpOpsS, go_sem, recoverD, hu, Try.ntmps133, Exit.thenS, ta_nil, ta_err]
  apply wpS_seq
  apply wpS_region
  simp [wpOpsS, go_sem, recoverD, hu, Exit.thenS]
  refine wpS_cond (t := false) (by simp [Act.eval, Array.replicate]) ?_
  simp only [Bool.false_eq_true, if_false]
  refine wpS_of_wp (wp_skip ?_)
  cases c₀
  simp_all [bodyPostS, results, Try.results133]
set_option maxRecDepth 100000 in
set_option maxHeartbeats 1600000 in
theorem rcatch_errno (p : Addr) (b : Nat) (x y : Int) (older : List PanicEntry) (w : World) (hp : w.cell? p = some (.pointer (some ⟨b, 0, none⟩))) (hc : w.cell? ⟨b, 3, none⟩ = some (.int .i64 y)) (hz : w.frozen? ⟨b, 3, none⟩ = false) :
    CallsD Try.prog 133 #[.pointer (some p)] (.panicking ({ v := .iface 54 (.int .i64 x), recovered := false } :: older)) w fun e u' w' => e = .returned (.tuple #[]) ∧ u' = .panicking ({ v := .iface 54 (.int .i64 x), recovered := true } :: older) ∧ w' = w.setCell ⟨b, 3, none⟩ (.int .i64 x) := by
  refine callsD_of_wpS Try.func133 rfl fun c₀ cs hu => ?_
  apply wpS_seq
  apply wpS_region
  simp [wpOpsS, go_sem, recoverD, hu, Try.ntmps133, Exit.thenS, ta_nil, ta_err]
  apply wpS_seq
  apply wpS_region
  simp [wpOpsS, go_sem, recoverD, hu, Exit.thenS]
  refine wpS_cond (t := true) (by simp [Act.eval, Array.replicate]) ?_
  simp only [if_true]
  apply wpS_region
  simp [wpOpsS, go_sem, hp, hc, hz, bodyPostS, results, Try.results133]
set_option maxRecDepth 100000 in
set_option maxHeartbeats 1600000 in
theorem err_made (b : Nat) (s : ByteArray) (a x : Int) (w : World) (h : Rd w b s a x) :
    Calls Try.prog 122 #[.pointer (some ⟨b, 0, none⟩)] w fun e w' => e = .returned (.int .i64 x) ∧ w = w' := by
  have c0 := h.made; have c3 := h.err
  clear h
  go_enter Try.func122, Try.ntmps122
  go_wp2
  go_ret
  exact ⟨rfl, rfl⟩
set_option maxRecDepth 100000 in
set_option maxHeartbeats 1600000 in
theorem err_unmade (b : Nat) (w : World) (h : w.cell? ⟨b, 0, none⟩ = some (.bool false)) :
    Calls Try.prog 122 #[.pointer (some ⟨b, 0, none⟩)] w fun e w' => e = .returned (.int .i64 8) ∧ w = w' := by
  go_enter Try.func122, Try.ntmps122
  go_wp2
  go_ret
  exact ⟨rfl, rfl⟩
set_option maxRecDepth 100000 in
set_option maxHeartbeats 1600000 in
theorem err_nil (w : World) :
    Calls Try.prog 122 #[.pointer none] w fun e w' => e = .returned (.int .i64 8) ∧ w = w' := by
  go_enter Try.func122, Try.ntmps122
  go_wp2
  go_ret
  exact ⟨rfl, rfl⟩
/-- A reader's box. -/
def rBox (w : World) (p : Value) : World := w.alloc (.cells #[p] 157)
theorem rBox_below (w : World) (p : Value) : Below w.heap.size w (rBox w p) := (Below.refl _ _).alloc (Nat.le_refl _) _
theorem rBox_cell (w : World) (p : Value) : (rBox w p).cell? ⟨w.heap.size, 0, none⟩ = some p := by simp [rBox]
set_option maxRecDepth 100000 in
set_option maxHeartbeats 1600000 in
theorem take_good (b : Nat) (s : ByteArray) (a : Int) (F : FuncId) (cs : Array Value) (Post : World → Prop) (hF : ∀ w, Sem.run Try.prog (callFunc F cs) w = .ok (.enter F cs) w) (w : World) (h : Rd w b s a 0) (hst : Calls Try.prog F cs (rBox w (.pointer (some ⟨b, 0, none⟩))) fun e w' => e = .returned (.tuple #[]) ∧ Post w') :
    Calls Try.prog 116 #[.pointer (some ⟨b, 0, none⟩), .func (.func F) #[] cs] w fun e w' => e = .returned (.tuple #[]) ∧ Post w' := by
  have hmf : ∀ (fn : Fn) (first cap : Array Value) (w : World), (Instr.makeFunc fn first cap).run Try.prog w = .ok (.func fn first cap) w := fun _ _ _ _ => rfl
  have H1 := Lib.hid (h.below (rBox_below w (.pointer (some ⟨b, 0, none⟩))))
  have HS := Lib.hid hst
  clear h hst
  go_enter_defers Try.func116, Try.ntmps116
  go_wp2_with fail
  refine (err_made b s a 0 _ H1.out).mono ?_
  rintro e w1 ⟨rfl, rfl⟩
  go_wp2_with fail
  refine HS.out.mono ?_
  rintro e w2 ⟨rfl, hm⟩
  have HM := Lib.hid hm
  clear hm
  go_wp2
  refine leaves_cons (f := 133) (args := #[.pointer (some ⟨w.heap.size, 0, none⟩)]) (by simp) (by simp [go_sem]) ?_
  refine (rcatch_idle _ _).mono ?_
  rintro e u' w'' ⟨rfl, rfl, rfl⟩
  simp only [Leaves, settle, results, Try.results116]
  simp
  exact HM.out
set_option maxRecDepth 100000 in
set_option maxHeartbeats 1600000 in
theorem take_bad (b : Nat) (s : ByteArray) (a x : Int) (F : FuncId) (cs : Array Value) (hF : ∀ w, Sem.run Try.prog (callFunc F cs) w = .ok (.enter F cs) w) (w : World) (h : Rd w b s a 0) (hst : Calls Try.prog F cs (rBox w (.pointer (some ⟨b, 0, none⟩))) fun e w' => e = .panicked [thrown x] ∧ ∃ a', RB b s a' (rBox w (.pointer (some ⟨b, 0, none⟩))) w') :
    Calls Try.prog 116 #[.pointer (some ⟨b, 0, none⟩), .func (.func F) #[] cs] w fun e w' => e = .returned (.tuple #[]) ∧ ∃ a', But (Own b) w w' ∧ Rd w' b s a' x := by
  have hmf : ∀ (fn : Fn) (first cap : Array Value) (w : World), (Instr.makeFunc fn first cap).run Try.prog w = .ok (.func fn first cap) w := fun _ _ _ _ => rfl
  have hb1 := rBox_below w (.pointer (some ⟨b, 0, none⟩))
  have H1 := Lib.hid (h.below hb1)
  have HB1 := Lib.hid (But.of_below (S := Own b) hb1)
  have HP := Lib.hid (rBox_cell w (.pointer (some ⟨b, 0, none⟩)))
  have hlt : ¬ Own b w.heap.size := by have := h.lt; unfold Own; omega
  have HL := Lib.hid hlt
  have HS := Lib.hid hst
  clear h hst hb1 hlt
  go_enter_defers Try.func116, Try.ntmps116
  go_wp2_with fail
  refine (err_made b s a 0 _ H1.out).mono ?_
  rintro e w1 ⟨rfl, rfl⟩
  go_wp2_with fail
  refine HS.out.mono ?_
  rintro e w2 ⟨rfl, a', hm⟩
  have HM := Lib.hid hm
  have HP2 := Lib.hid (hm.1.cell (a := ⟨w.heap.size, 0, none⟩) HL.out HP.out)
  clear hm
  go_wp2
  refine leaves_cons (f := 133) (args := #[.pointer (some ⟨w.heap.size, 0, none⟩)]) (by simp) (by simp [go_sem]) ?_
  refine (rcatch_errno _ b x 0 [] _ HP2.out HM.out.2.err HM.out.2.fr3).mono ?_
  rintro e u' w'' ⟨rfl, rfl, rfl⟩
  have HF := Lib.hid (HM.out.2.setErr x)
  have HB2 := Lib.hid ((HB1.out.trans HM.out.1).setCell (p := ⟨b, 3, none⟩) (fun _ => rfl) (.int .i64 x))
  simp [Leaves, settle, results, Try.results116, go_sem]
  exact ⟨HB2.out, a', HF.out⟩
set_option maxRecDepth 100000 in
set_option maxHeartbeats 1600000 in
theorem take_err (b : Nat) (s : ByteArray) (a x : Int) (st : Value) (w : World) (h : Rd w b s a x) (hx : x ≠ 0) :
    Calls Try.prog 116 #[.pointer (some ⟨b, 0, none⟩), st] w fun e w' => e = .returned (.tuple #[]) ∧ Below w.heap.size w w' := by
  have hb1 := rBox_below w (.pointer (some ⟨b, 0, none⟩))
  have H1 := Lib.hid (h.below hb1)
  have HB := Lib.hid hb1
  have hq : (x != 0) = true := by simp [hx]
  clear h hb1
  go_enter_defers Try.func116, Try.ntmps116
  go_wp2_with fail
  refine (err_made b s a x _ H1.out).mono ?_
  rintro e w1 ⟨rfl, rfl⟩
  go_wp2
  simp [bodyPostD, Leaves, settle, results, Try.results116]
  exact HB.out
end Go.Proofs.Ythmljllgfigebaa

/- Package wire: a reader's numbers. Conditions: texts of at most 2^63-1 bytes. -/
namespace Go.Proofs.Ythmljllgfigebaa
open Go.RowKit Go.PlainAid

/-- A step of a reader has read: its answer lies in p. -/
def RC (b : Nat) (p : Addr) (s : ByteArray) (a : Int) (v : Value) (w w' : World) : Prop := But (fun k => k = b ∨ k = p.block) w w' ∧ Rd w' b s a 0 ∧ w'.cell? p = some v
theorem RC.of {b : Nat} {p : Addr} {s : ByteArray} {a : Int} {v v0 : Value} {w w1 : World} (h : RB b s a w w1) (hc : w1.cell? p = some v0) (hp : p.block ≠ b) : RC b p s a v w (w1.setCell p v) := by
  have hbt : But (fun k => k = p.block) w1 (w1.setCell p v) := (But.of_below (S := fun k => k = p.block) (Below.refl _ _)).setCell (p := p) (fun _ => rfl) v
  exact ⟨(h.1.mono (fun k _ hk => Or.inl hk)).trans (hbt.mono (fun k _ hk => Or.inr hk)), h.2.but hbt (fun e => hp e.symm), World.cell?_setCell_same _ _ _ hc⟩
set_option maxRecDepth 100000 in
set_option maxHeartbeats 1600000 in
theorem sNum_good (pr pm pn : Addr) (b : Nat) (s : ByteArray) (a m : Int) (v0 : Value) (w : World) (hr : w.cell? pr = some (.pointer (some ⟨b, 0, none⟩))) (hm : w.cell? pm = some (.int .i64 m)) (hn : w.cell? pn = some v0) (hz : w.frozen? pn = false) (hp : pn.block ≠ b) (h : Rd w b s a 0) (hs : s.size ≤ 9223372036854775807) (hm1 : m ≤ 9223372036854775807) (he : (upR s a m 5).2.2 = 0) :
    Calls Try.prog 117 #[.pointer (some pr), .pointer (some pm), .pointer (some pn)] w fun e w' => e = .returned (.tuple #[]) ∧ RC b pn s (upR s a m 5).2.1 (.int .i64 (upR s a m 5).1) w w' := by
  have hu := upTo_any b s a m 5 w h hs hm1 (by decide)
  rw [if_pos he] at hu
  have HU := Lib.hid hu; have HN := Lib.hid hn; have HZ := Lib.hid hz
  have hl := World.block_lt_of_cell? w _ hn
  clear hu hn hz h he
  go_enter Try.func117, Try.ntmps117
  go_wp2_with fail
  refine HU.out.mono ?_
  rintro e w1 ⟨rfl, hb⟩
  have n1 := hb.1.cell (a := pn) hp HN.out
  have z1 : w1.frozen? pn = false := by rw [hb.1.frozen hl hp]; exact HZ.out
  have HF := Lib.hid (RC.of (v := .int .i64 (upR s a m 5).1) hb n1 hp)
  clear hb
  go_wp2
  go_end0
  exact ⟨rfl, HF.out⟩
set_option maxRecDepth 100000 in
set_option maxHeartbeats 1600000 in
theorem sNum_bad (pr pm pn : Addr) (b : Nat) (s : ByteArray) (a m : Int) (w : World) (hr : w.cell? pr = some (.pointer (some ⟨b, 0, none⟩))) (hm : w.cell? pm = some (.int .i64 m)) (h : Rd w b s a 0) (hs : s.size ≤ 9223372036854775807) (hm1 : m ≤ 9223372036854775807) (he : (upR s a m 5).2.2 ≠ 0) :
    Calls Try.prog 117 #[.pointer (some pr), .pointer (some pm), .pointer (some pn)] w fun e w' => e = .panicked [thrown (upR s a m 5).2.2] ∧ ∃ a', RB b s a' w w' := by
  have hu := upTo_any b s a m 5 w h hs hm1 (by decide)
  rw [if_neg he] at hu
  have HU := Lib.hid hu
  clear hu h he
  go_enter Try.func117, Try.ntmps117
  go_wp2_with fail
  refine HU.out.mono ?_
  rintro e w1 ⟨rfl, hb⟩
  have HB := Lib.hid hb; clear hb
  go_wp2
  exact ⟨rfl, rfl, _, HB.out⟩
-- left out here

















-- left out here












theorem two_lay (w : World) (u v : Value) (t t' : TypeId) : Below w.heap.size w ((w.alloc (.cells #[u] t)).alloc (.cells #[v] t')) := ((Below.refl _ _).alloc (Nat.le_refl _) _).alloc (by simp) _
theorem But.fresh {S T : Nat → Prop} {w w1 w2 : World} (h : But S w w1) (h2 : But T w1 w2) (hT : ∀ k, k < w.heap.size → T k → S k) : But S w w2 :=
  ⟨h2.os.trans h.os, h2.tape.trans h.tape, h2.output.trans h.output, Nat.le_trans h.size h2.size, fun k hk hS => (h2.block k (Nat.lt_of_lt_of_le hk h.size) (fun ht => hS (hT k hk ht))).trans (h.block k hk hS)⟩
/-- What a reader answers and keeps: the answer, the place, the error. -/
def numR (s : ByteArray) (a x m : Int) : Int × Int × Int := if x ≠ 0 then (0, a, x) else ((if (upR s a m 5).2.2 = 0 then (upR s a m 5).1 else 0), (upR s a m 5).2.1, (upR s a m 5).2.2)
def bigR (s : ByteArray) (a x : Int) : Int × Int × Int := if x ≠ 0 then (0, a, x) else ((if (getR s a).2.2 = 0 then (getR s a).1 else 0), (getR s a).2.1, (getR s a).2.2)
/-- The reader has a place, whichever, behind an error. -/
def RE (w : World) (b : Nat) (s : ByteArray) (a x : Int) : Prop := if x = 0 then Rd w b s a 0 else ∃ a', Rd w b s a' x
theorem RE.good {w : World} {b : Nat} {s : ByteArray} {a : Int} (h : Rd w b s a 0) : RE w b s a 0 := by unfold RE; rw [if_pos rfl]; exact h
theorem RE.bad {w : World} {b : Nat} {s : ByteArray} {a a' x : Int} (hx : x ≠ 0) (h : Rd w b s a' x) : RE w b s a x := by unfold RE; rw [if_neg hx]; exact ⟨a', h⟩
theorem lay2 (w : World) (p z : Value) (t1 t3 : TypeId) : Below w.heap.size w ((w.alloc (.cells #[p] t1)).alloc (.cells #[z] t3)) ∧ ((w.alloc (.cells #[p] t1)).alloc (.cells #[z] t3)).cell? ⟨w.heap.size, 0, none⟩ = some p ∧ ((w.alloc (.cells #[p] t1)).alloc (.cells #[z] t3)).cell? ⟨w.heap.size + 1, 0, none⟩ = some z ∧ ((w.alloc (.cells #[p] t1)).alloc (.cells #[z] t3)).frozen? ⟨w.heap.size + 1, 0, none⟩ = false := by
  refine ⟨two_lay w p z t1 t3, ?_, ?_, ?_⟩ <;> simp
theorem lay3 (w : World) (p v z : Value) (t1 t2 t3 : TypeId) : Below w.heap.size w (((w.alloc (.cells #[p] t1)).alloc (.cells #[v] t2)).alloc (.cells #[z] t3)) ∧ (((w.alloc (.cells #[p] t1)).alloc (.cells #[v] t2)).alloc (.cells #[z] t3)).cell? ⟨w.heap.size, 0, none⟩ = some p ∧ (((w.alloc (.cells #[p] t1)).alloc (.cells #[v] t2)).alloc (.cells #[z] t3)).cell? ⟨w.heap.size + 1, 0, none⟩ = some v ∧ (((w.alloc (.cells #[p] t1)).alloc (.cells #[v] t2)).alloc (.cells #[z] t3)).cell? ⟨w.heap.size + 1 + 1, 0, none⟩ = some z ∧ (((w.alloc (.cells #[p] t1)).alloc (.cells #[v] t2)).alloc (.cells #[z] t3)).frozen? ⟨w.heap.size + 1 + 1, 0, none⟩ = false := by
  obtain ⟨a0, a1, a2, _⟩ := lay2 w p v t1 t2
  have hsz : ((w.alloc (.cells #[p] t1)).alloc (.cells #[v] t2)).heap.size = w.heap.size + 1 + 1 := by simp
  generalize (w.alloc (.cells #[p] t1)).alloc (.cells #[v] t2) = W at a0 a1 a2 hsz ⊢
  have hb : Below W.heap.size W (W.alloc (.cells #[z] t3)) := (Below.refl _ _).alloc (Nat.le_refl _) _
  refine ⟨a0.alloc (by omega) _, cell_below hb a1, cell_below hb a2, ?_, ?_⟩
  · rw [← hsz]; simp
  · rw [← hsz]; simp
set_option maxRecDepth 100000 in
set_option maxHeartbeats 1600000 in
theorem rNum_any (b : Nat) (s : ByteArray) (a x m : Int) (w : World) (h : Rd w b s a x) (hs : s.size ≤ 9223372036854775807) (hm : m ≤ 9223372036854775807) :
    Calls Try.prog 88 #[.pointer (some ⟨b, 0, none⟩), .int .i64 m] w fun e w' => e = .returned (.int .i64 (numR s a x m).1) ∧ RE w' b s (numR s a x m).2.1 (numR s a x m).2.2 ∧ But (Own b) w w' := by
  have hmf : ∀ (fn : Fn) (first cap : Array Value) (w : World), (Instr.makeFunc fn first cap).run Try.prog w = .ok (.func fn first cap) w := fun _ _ _ _ => rfl
  obtain ⟨W, hW⟩ : ∃ W, W = (((w.alloc (.cells #[.pointer (some ⟨b, 0, none⟩)] 157)).alloc (.cells #[.int .i64 m] 3)).alloc (.cells #[.int .i64 0] 3)) := ⟨_, rfl⟩
  have hl := lay3 w (.pointer (some ⟨b, 0, none⟩)) (.int .i64 m) (.int .i64 0) 157 3 3
  rw [← hW] at hl
  obtain ⟨l0, l1, l2, l3, l4⟩ := hl
  have H1 := Lib.hid (h.below l0)
  have HB := Lib.hid (But.of_below (S := Own b) l0)
  have hlt := h.lt
  have k1 := rBox_below W (.pointer (some ⟨b, 0, none⟩))
  have H2 := Lib.hid (H1.out.below k1)
  have HB2 := Lib.hid (But.of_below (S := Own b) k1)
  have L1 := Lib.hid (cell_below k1 l1); have L2 := Lib.hid (cell_below k1 l2); have L3 := Lib.hid (cell_below k1 l3)
  have L4 : Hid ((rBox W (.pointer (some ⟨b, 0, none⟩))).frozen? ⟨w.heap.size + 1 + 1, 0, none⟩ = false) := Lib.hid (by rw [k1.frozen (World.block_lt_of_cell? W _ l3)]; exact l4)
  have HW := Lib.hid hW; have M3 := Lib.hid l3
  have hF : ∀ u, Sem.run Try.prog (callFunc 117 #[.pointer (some ⟨w.heap.size, 0, none⟩), .pointer (some ⟨w.heap.size + 1, 0, none⟩), .pointer (some ⟨w.heap.size + 1 + 1, 0, none⟩)]) u = .ok (.enter 117 #[.pointer (some ⟨w.heap.size, 0, none⟩), .pointer (some ⟨w.heap.size + 1, 0, none⟩), .pointer (some ⟨w.heap.size + 1 + 1, 0, none⟩)]) u := fun _ => rfl
  have hd : w.heap.size + 1 + 1 ≠ b := by omega
  have HFn := Lib.hid hF
  clear h l0 l1 l2 l3 l4 k1 hF
  go_enter Try.func88, Try.ntmps88
  go_wp2_with fail
  rw [← HW.out]
  refine Calls.mono (R := fun e w' => e = .returned (.tuple #[]) ∧ w'.cell? ⟨w.heap.size + 1 + 1, 0, none⟩ = some (.int .i64 (numR s a x m).1) ∧ RE w' b s (numR s a x m).2.1 (numR s a x m).2.2 ∧ But (Own b) w w') ?_ ?_
  · by_cases hx : x = 0
    · subst hx
      by_cases hu : (upR s a m 5).2.2 = 0
      · have hq : numR s a 0 m = ((upR s a m 5).1, (upR s a m 5).2.1, 0) := by unfold numR; rw [if_neg (by simp), if_pos hu, hu]
        rw [hq]
        refine (take_good b s a _ _ _ HFn.out _ H1.out (sNum_good _ _ _ b s a m _ _ L1.out L2.out L3.out L4.out hd H2.out hs hm hu)).mono ?_
        rintro e w1 ⟨rfl, r1, r2, r3⟩
        refine ⟨rfl, r3, RE.good r2, (HB.out.trans HB2.out).fresh r1 (fun k hk hS => ?_)⟩
        rcases hS with hS | hS
        · exact hS
        · simp only at hS; omega
      · have hq : numR s a 0 m = (0, (upR s a m 5).2.1, (upR s a m 5).2.2) := by unfold numR; rw [if_neg (by simp), if_neg hu]
        rw [hq]
        refine (take_bad b s a _ _ _ HFn.out _ H1.out (sNum_bad _ _ _ b s a m _ L1.out L2.out H2.out hs hm hu)).mono ?_
        rintro e w1 ⟨rfl, a', r1, r2⟩
        exact ⟨rfl, r1.cell (a := ⟨w.heap.size + 1 + 1, 0, none⟩) hd M3.out, RE.bad hu r2, HB.out.trans r1⟩
    · have hq : numR s a x m = (0, a, x) := by unfold numR; rw [if_pos hx]
      rw [hq]
      refine (take_err b s a x _ _ H1.out hx).mono ?_
      rintro e w1 ⟨rfl, r1⟩
      exact ⟨rfl, cell_below r1 M3.out, RE.bad hx (H1.out.below r1), HB.out.trans (But.of_below r1)⟩
  rintro e w1 ⟨rfl, r1, r2, r3⟩
  have R2 := Lib.hid r2; have R3 := Lib.hid r3; clear r2 r3
  go_wp2
  go_ret
  exact ⟨rfl, R2.out, R3.out⟩
-- left out here



















































end Go.Proofs.Ythmljllgfigebaa

/- Package wire: a reader's texts. Conditions: texts of at most 2^63-1 bytes. -/
namespace Go.Proofs.Ythmljllgfigebaa
open Go.RowKit Go.PlainAid

/-- What lies in a cell. -/
def PV (p : Addr) (w : World) : Value := (w.cell? p).getD (.bool false)
theorem pv_some {p : Addr} {w : World} {v : Value} (h : w.cell? p = some v) : w.cell? p = some (PV p w) := by unfold PV; rw [h]; rfl
def SX (pr pn : Addr) (b : Nat) (s : ByteArray) (a2 : Nat) (w' : World) : Prop := w'.cell? pr = some (.pointer (some ⟨b, 0, none⟩)) ∧ w'.cell? ⟨b, 1, none⟩ = some (.string s) ∧ w'.cell? ⟨b, 2, none⟩ = some (.int .i64 a2) ∧ w'.cell? pn = some (PV pn w') ∧ w'.frozen? pn = false
theorem SX.set {pr pn : Addr} {b : Nat} {s : ByteArray} {a2 : Nat} {w' : World} (hpp : pr.block ≠ pn.block) (hp : pn.block ≠ b) (h : w'.cell? pr = some (.pointer (some ⟨b, 0, none⟩)) ∧ w'.cell? ⟨b, 1, none⟩ = some (.string s) ∧ w'.cell? ⟨b, 2, none⟩ = some (.int .i64 a2) ∧ w'.cell? pn = some (PV pn w') ∧ w'.frozen? pn = false) (v : Value) : SX pr pn b s a2 (w'.setCell pn v) := by
  obtain ⟨h1, h2, h3, h4, h5⟩ := h
  refine ⟨?_, ?_, ?_, pv_some (World.cell?_setCell_same _ _ _ h4), by rw [World.frozen?_setCell]; exact h5⟩
  · rw [World.cell?_setCell_far _ _ _ _ (fun e => hpp e.symm)]; exact h1
  · rw [World.cell?_setCell_far _ _ _ _ hp]; exact h2
  · rw [World.cell?_setCell_far _ _ _ _ hp]; exact h3
theorem RC.pos {b : Nat} {p : Addr} {s : ByteArray} {a : Int} {v : Value} {w w' : World} (h : RC b p s a v w w') (hp : p.block ≠ b) (a' : Int) : RC b p s a' v w (w'.setCell ⟨b, 2, none⟩ (.int .i64 a')) :=
  ⟨h.1.setCell (p := ⟨b, 2, none⟩) (fun _ => Or.inl rfl) _, h.2.1.setPos a', by rw [World.cell?_setCell_far _ _ _ _ (fun e => hp e.symm)]; exact h.2.2⟩
set_option maxRecDepth 100000 in
set_option maxHeartbeats 1600000 in
theorem sText_good (pr pm pn : Addr) (b : Nat) (s : ByteArray) (a m : Int) (n a2 : Nat) (v0 : Value) (w : World) (hr : w.cell? pr = some (.pointer (some ⟨b, 0, none⟩))) (hm : w.cell? pm = some (.int .i64 m)) (hn : w.cell? pn = some v0) (hz : w.frozen? pn = false) (hp : pn.block ≠ b) (hpr : pr.block ≠ b) (hpp : pr.block ≠ pn.block) (h : Rd w b s a 0) (hs : s.size ≤ 9223372036854775807) (hm1 : m ≤ 9223372036854775807) (he : upR s a m 3 = ((n : Int), (a2 : Int), 0)) (hle : a2 + n ≤ s.size) :
    Calls Try.prog 120 #[.pointer (some pr), .pointer (some pm), .pointer (some pn)] w fun e w' => e = .returned (.tuple #[]) ∧ RC b pn s ((a2 : Int) + n) (.string (s.extract a2 (a2 + n))) w w' := by
  have hu := upTo_any b s a m 3 w h hs hm1 (by decide)
  rw [he] at hu
  dsimp only at hu
  rw [if_pos rfl] at hu
  have HU := Lib.hid hu; have HN := Lib.hid hn; have HZ := Lib.hid hz; have HR := Lib.hid hr
  have hl := World.block_lt_of_cell? w _ hn
  have hsub : IntKind.i64.wrap ((s.size : Int) - (a2 : Int)) = (s.size : Int) - (a2 : Int) := IntWalk.i64_in _ ⟨by omega, by omega⟩
  have hadd : IntKind.i64.wrap ((a2 : Int) + (n : Int)) = (a2 : Int) + (n : Int) := IntWalk.i64_in _ ⟨by omega, by omega⟩
  have hlt : ¬ ((s.size : Int) - (a2 : Int) < (n : Int)) := by omega
  have hsl := slice_run s a2 (a2 + n) (a2 : Int) ((a2 : Int) + (n : Int)) rfl (by omega) (by omega) (by omega)
  clear hu hn hz h he
  go_enter Try.func120, Try.ntmps120
  go_wp2_with fail
  refine HU.out.mono ?_
  rintro e w1 ⟨rfl, hb⟩
  have r1 := hb.1.cell (a := pr) hpr HR.out
  have n1 := hb.1.cell (a := pn) hp HN.out
  have z1 : w1.frozen? pn = false := by rw [hb.1.frozen hl hp]; exact HZ.out
  have c1 := hb.2.txt; have c2 := hb.2.pos; have c3 := hb.2.fr2
  have HB := Lib.hid hb
  clear hb hr
  go_wp2_with fail
  go_quiet (fail)
  go_wp2_with fail
  obtain ⟨w2, hw2⟩ : ∃ w2, w2 = w1.drewN nq := ⟨_, rfl⟩
  have d1 : w2.drew.cell? pr = some (.pointer (some ⟨b, 0, none⟩)) := by rw [hw2]; exact r1
  have d4 : w2.drew.cell? pn = some v0 := by rw [hw2]; exact n1
  have d5 : w2.drew.frozen? pn = false := by rw [hw2]; exact z1
  have HB2 : Hid (RB b s a2 w w2.drew) := Lib.hid (by rw [hw2]; exact ⟨(HB.out.1.draws nq).draws 1, HB.out.2.below (below_draws (below_draws (Below.refl _ _) nq) 1)⟩)
  have HS : Hid (SX pr pn b s a2 w2.drew) := Lib.hid ⟨d1, HB2.out.2.txt, HB2.out.2.pos, pv_some d4, d5⟩
  have HD := Lib.hid d4; have HE := Lib.hid d1
  have HF := Lib.hid (RC.of (v := .string (s.extract a2 (a2 + n))) HB2.out d4 hp)
  rw [← hw2]
  clear r1 n1 z1 c1 c2 c3 hw2 HB d1 d4 d5
  go_region_held3 (fun w' => w'.cell? pr = some (.pointer (some ⟨b, 0, none⟩)) ∧ w'.cell? ⟨b, 1, none⟩ = some (.string s) ∧ w'.cell? ⟨b, 2, none⟩ = some (.int .i64 a2) ∧ w'.cell? pn = some (PV pn w') ∧ w'.frozen? pn = false) (first | exact HS.out | exact SX.set hpp hp (by assumption) _ | assumption) (fail)
  have e1 : (w2.setCell pn (.string (s.extract a2 (a2 + n)))).drew.cell? pr = some (.pointer (some ⟨b, 0, none⟩)) := (World.cell?_setCell_far w2.drew pn pr _ (fun e => hpp e.symm)).trans HE.out
  have e2 : (w2.setCell pn (.string (s.extract a2 (a2 + n)))).drew.cell? ⟨b, 2, none⟩ = some (.int .i64 a2) := HF.out.2.1.pos
  have e3 : (w2.setCell pn (.string (s.extract a2 (a2 + n)))).drew.frozen? ⟨b, 2, none⟩ = false := HF.out.2.1.fr2
  have HG := Lib.hid (HF.out.pos hp ((a2 : Int) + n))
  rename_i hHeld
  clear hHeld
  go_wp2
  go_end0
  exact ⟨rfl, HG.out⟩
set_option maxRecDepth 100000 in
set_option maxHeartbeats 1600000 in
theorem sText_bad (pr pm pn : Addr) (b : Nat) (s : ByteArray) (a m : Int) (w : World) (hr : w.cell? pr = some (.pointer (some ⟨b, 0, none⟩))) (hm : w.cell? pm = some (.int .i64 m)) (h : Rd w b s a 0) (hs : s.size ≤ 9223372036854775807) (hm1 : m ≤ 9223372036854775807) (he : (upR s a m 3).2.2 ≠ 0) :
    Calls Try.prog 120 #[.pointer (some pr), .pointer (some pm), .pointer (some pn)] w fun e w' => e = .panicked [thrown (upR s a m 3).2.2] ∧ ∃ a', RB b s a' w w' := by
  have hu := upTo_any b s a m 3 w h hs hm1 (by decide)
  rw [if_neg he] at hu
  have HU := Lib.hid hu
  clear hu h he
  go_enter Try.func120, Try.ntmps120
  go_wp2_with fail
  refine HU.out.mono ?_
  rintro e w1 ⟨rfl, hb⟩
  have HB := Lib.hid hb; clear hb
  go_wp2
  exact ⟨rfl, rfl, _, HB.out⟩
set_option maxRecDepth 100000 in
set_option maxHeartbeats 1600000 in
theorem sText_short (pr pm pn : Addr) (b : Nat) (s : ByteArray) (a m : Int) (n a2 : Nat) (w : World) (hr : w.cell? pr = some (.pointer (some ⟨b, 0, none⟩))) (hm : w.cell? pm = some (.int .i64 m)) (hpr : pr.block ≠ b) (h : Rd w b s a 0) (hs : s.size ≤ 9223372036854775807) (hm1 : m ≤ 9223372036854775807) (he : upR s a m 3 = ((n : Int), (a2 : Int), 0)) (ha : a2 ≤ s.size) (hle : ¬ a2 + n ≤ s.size) :
    Calls Try.prog 120 #[.pointer (some pr), .pointer (some pm), .pointer (some pn)] w fun e w' => e = .panicked [thrown 2] ∧ ∃ a', RB b s a' w w' := by
  have hu := upTo_any b s a m 3 w h hs hm1 (by decide)
  rw [he] at hu
  dsimp only at hu
  rw [if_pos rfl] at hu
  have HU := Lib.hid hu; have HR := Lib.hid hr
  have hsub : IntKind.i64.wrap ((s.size : Int) - (a2 : Int)) = (s.size : Int) - (a2 : Int) := IntWalk.i64_in _ ⟨by omega, by omega⟩
  have hlt : ((s.size : Int) - (a2 : Int) < (n : Int)) := by omega
  clear hu h he
  go_enter Try.func120, Try.ntmps120
  go_wp2_with fail
  refine HU.out.mono ?_
  rintro e w1 ⟨rfl, hb⟩
  have r1 := hb.1.cell (a := pr) hpr HR.out
  have c1 := hb.2.txt; have c2 := hb.2.pos
  have HB := Lib.hid hb
  clear hb hr
  go_wp2_with fail
  go_quiet (fail)
  have HB2 : Hid (RB b s a2 w (w1.drewN nq)) := Lib.hid ⟨HB.out.1.draws nq, HB.out.2.below (below_draws (Below.refl _ _) nq)⟩
  go_wp2
  exact ⟨rfl, rfl, _, HB2.out⟩
theorem getR_pos {s : ByteArray} {a g1 g2 : Int} (h : getR s a = (g1, g2, 0)) : 0 ≤ g2 ∧ g2 ≤ s.size := by
  unfold getR at h
  split at h
  · simp at h
  rename_i h1
  have h2 : 0 ≤ a ∧ a ≤ s.size := by omega
  split at h
  · simp at h
  rename_i h3
  split at h
  · simp only [Prod.mk.injEq] at h; omega
  rename_i h4
  split at h
  · simp at h
  rename_i h5
  split at h
  · simp only [Prod.mk.injEq] at h; omega
  · simp at h
theorem upR_good {s : ByteArray} {a m x : Int} (hx : x ≠ 0) (h : (upR s a m x).2.2 = 0) : ∃ n a2 : Nat, upR s a m x = ((n : Int), (a2 : Int), 0) ∧ a2 ≤ s.size := by
  have hr := getR_range s a
  rcases hg : getR s a with ⟨g1, g2, g3⟩
  rw [hg] at hr
  rw [upR_of hg] at h ⊢
  by_cases h3 : g3 = 0
  · subst h3
    have hp := getR_pos hg
    rw [if_neg (by simp)] at h ⊢
    by_cases hm : m < 0 ∨ m < g1
    · rw [if_pos hm] at h; exact absurd h hx
    · rw [if_neg hm]
      obtain ⟨n, rfl⟩ := Int.eq_ofNat_of_zero_le hr
      obtain ⟨k, rfl⟩ := Int.eq_ofNat_of_zero_le hp.1
      exact ⟨n, k, rfl, by omega⟩
  · rw [if_pos h3] at h; exact absurd h h3
/-- What Text answers and keeps. -/
def textR (s : ByteArray) (a x m : Int) : ByteArray × Int × Int :=
  if x ≠ 0 then (⟨#[]⟩, a, x) else if (upR s a m 3).2.2 ≠ 0 then (⟨#[]⟩, (upR s a m 3).2.1, (upR s a m 3).2.2)
  else if (s.size : Int) < (upR s a m 3).2.1 + (upR s a m 3).1 then (⟨#[]⟩, (upR s a m 3).2.1, 2)
  else (s.extract (upR s a m 3).2.1.toNat ((upR s a m 3).2.1.toNat + (upR s a m 3).1.toNat), (upR s a m 3).2.1 + (upR s a m 3).1, 0)
set_option maxRecDepth 100000 in
set_option maxHeartbeats 1600000 in
theorem rText_any (b : Nat) (s : ByteArray) (a x m : Int) (w : World) (h : Rd w b s a x) (hs : s.size ≤ 9223372036854775807) (hm : m ≤ 9223372036854775807) :
    Calls Try.prog 90 #[.pointer (some ⟨b, 0, none⟩), .int .i64 m] w fun e w' => e = .returned (.string (textR s a x m).1) ∧ RE w' b s (textR s a x m).2.1 (textR s a x m).2.2 ∧ But (Own b) w w' := by
  have hmf : ∀ (fn : Fn) (first cap : Array Value) (w : World), (Instr.makeFunc fn first cap).run Try.prog w = .ok (.func fn first cap) w := fun _ _ _ _ => rfl
  obtain ⟨W, hW⟩ : ∃ W, W = (((w.alloc (.cells #[.pointer (some ⟨b, 0, none⟩)] 157)).alloc (.cells #[.int .i64 m] 3)).alloc (.cells #[.string ⟨#[]⟩] 9)) := ⟨_, rfl⟩
  have hl := lay3 w (.pointer (some ⟨b, 0, none⟩)) (.int .i64 m) (.string ⟨#[]⟩) 157 3 9
  rw [← hW] at hl
  obtain ⟨l0, l1, l2, l3, l4⟩ := hl
  have H1 := Lib.hid (h.below l0)
  have HB := Lib.hid (But.of_below (S := Own b) l0)
  have hlt := h.lt
  have k1 := rBox_below W (.pointer (some ⟨b, 0, none⟩))
  have H2 := Lib.hid (H1.out.below k1)
  have HB2 := Lib.hid (But.of_below (S := Own b) k1)
  have L1 := Lib.hid (cell_below k1 l1); have L2 := Lib.hid (cell_below k1 l2); have L3 := Lib.hid (cell_below k1 l3)
  have L4 : Hid ((rBox W (.pointer (some ⟨b, 0, none⟩))).frozen? ⟨w.heap.size + 1 + 1, 0, none⟩ = false) := Lib.hid (by rw [k1.frozen (World.block_lt_of_cell? W _ l3)]; exact l4)
  have HW := Lib.hid hW; have M3 := Lib.hid l3
  have hF : ∀ u, Sem.run Try.prog (callFunc 120 #[.pointer (some ⟨w.heap.size, 0, none⟩), .pointer (some ⟨w.heap.size + 1, 0, none⟩), .pointer (some ⟨w.heap.size + 1 + 1, 0, none⟩)]) u = .ok (.enter 120 #[.pointer (some ⟨w.heap.size, 0, none⟩), .pointer (some ⟨w.heap.size + 1, 0, none⟩), .pointer (some ⟨w.heap.size + 1 + 1, 0, none⟩)]) u := fun _ => rfl
  have hd : w.heap.size + 1 + 1 ≠ b := by omega
  have HFn := Lib.hid hF
  clear h l0 l1 l2 l3 l4 k1 hF
  go_enter Try.func90, Try.ntmps90
  go_wp2_with fail
  rw [← HW.out]
  refine Calls.mono (R := fun e w' => e = .returned (.tuple #[]) ∧ w'.cell? ⟨w.heap.size + 1 + 1, 0, none⟩ = some (.string (textR s a x m).1) ∧ RE w' b s (textR s a x m).2.1 (textR s a x m).2.2 ∧ But (Own b) w w') ?_ ?_
  · by_cases hx : x = 0
    · subst hx
      by_cases hu : (upR s a m 3).2.2 = 0
      · obtain ⟨n, a2, hn, ha2⟩ := upR_good (by decide) hu
        by_cases hle : a2 + n ≤ s.size
        · have hq : textR s a 0 m = (s.extract a2 (a2 + n), (a2 : Int) + n, 0) := by unfold textR; rw [if_neg (by simp), hn, if_neg (by simp), if_neg (by simp only; omega)]; simp
          rw [hq]
          refine (take_good b s a _ _ _ HFn.out _ H1.out (sText_good _ _ _ b s a m n a2 _ _ L1.out L2.out L3.out L4.out hd (by simp only; omega) (by simp only; omega) H2.out hs hm hn hle)).mono ?_
          rintro e w1 ⟨rfl, r1, r2, r3⟩
          refine ⟨rfl, r3, RE.good r2, (HB.out.trans HB2.out).fresh r1 (fun k hk hS => ?_)⟩
          rcases hS with hS | hS
          · exact hS
          · simp only at hS; omega
        · have hq : textR s a 0 m = (⟨#[]⟩, (a2 : Int), 2) := by unfold textR; rw [if_neg (by simp), hn, if_neg (by simp), if_pos (by simp only; omega)]
          rw [hq]
          refine (take_bad b s a _ _ _ HFn.out _ H1.out (sText_short _ _ _ b s a m n a2 _ L1.out L2.out (by simp only; omega) H2.out hs hm hn ha2 hle)).mono ?_
          rintro e w1 ⟨rfl, a', r1, r2⟩
          exact ⟨rfl, r1.cell (a := ⟨w.heap.size + 1 + 1, 0, none⟩) hd M3.out, RE.bad (by simp) r2, HB.out.trans r1⟩
      · have hq : textR s a 0 m = (⟨#[]⟩, (upR s a m 3).2.1, (upR s a m 3).2.2) := by unfold textR; rw [if_neg (by simp), if_pos hu]
        rw [hq]
        refine (take_bad b s a _ _ _ HFn.out _ H1.out (sText_bad _ _ _ b s a m _ L1.out L2.out H2.out hs hm hu)).mono ?_
        rintro e w1 ⟨rfl, a', r1, r2⟩
        exact ⟨rfl, r1.cell (a := ⟨w.heap.size + 1 + 1, 0, none⟩) hd M3.out, RE.bad hu r2, HB.out.trans r1⟩
    · have hq : textR s a x m = (⟨#[]⟩, a, x) := by unfold textR; rw [if_pos hx]
      rw [hq]
      refine (take_err b s a x _ _ H1.out hx).mono ?_
      rintro e w1 ⟨rfl, r1⟩
      exact ⟨rfl, cell_below r1 M3.out, RE.bad hx (H1.out.below r1), HB.out.trans (But.of_below r1)⟩
  rintro e w1 ⟨rfl, r1, r2, r3⟩
  have R2 := Lib.hid r2; have R3 := Lib.hid r3; clear r2 r3
  go_wp2
  go_ret
  exact ⟨rfl, R2.out, R3.out⟩
end Go.Proofs.Ythmljllgfigebaa

/- Package wire: a reader's flags. Conditions: texts of at most 2^63-1 bytes. -/
namespace Go.Proofs.Ythmljllgfigebaa
open Go.RowKit Go.PlainAid

theorem rd_draws {b : Nat} {s : ByteArray} {a : Int} {w : World} (h : Rd w b s a 0) (n : Nat) : RB b s a w (w.drewN n) := ⟨(But.refl _ _).draws n, h.below (below_draws (Below.refl _ _) n)⟩
theorem rd_draws2 {b : Nat} {s : ByteArray} {a : Int} {w : World} (h : Rd w b s a 0) (n k : Nat) : RB b s a w ((w.drewN n).drewN k) := ⟨((But.refl _ _).draws n).draws k, h.below (below_draws (below_draws (Below.refl _ _) n) k)⟩
set_option maxRecDepth 100000 in
set_option maxHeartbeats 1600000 in
theorem sFlag_end (pr pn : Addr) (b : Nat) (s : ByteArray) (w : World) (hr : w.cell? pr = some (.pointer (some ⟨b, 0, none⟩))) (h : Rd w b s s.size 0) (hs : s.size ≤ 9223372036854775807) :
    Calls Try.prog 119 #[.pointer (some pr), .pointer (some pn)] w fun e w' => e = .panicked [thrown 2] ∧ ∃ a', RB b s a' w w' := by
  have H := Lib.hid h
  have c1 := h.txt; have c2 := h.pos
  clear h
  go_enter Try.func119, Try.ntmps119
  go_wp2_with fail
  go_quiet (fail)
  have HB2 := Lib.hid (rd_draws H.out nq)
  go_wp2
  exact ⟨rfl, rfl, _, HB2.out⟩
set_option maxRecDepth 100000 in
set_option maxHeartbeats 1600000 in
theorem sFlag_form (pr pn : Addr) (b : Nat) (s : ByteArray) (a : Nat) (w : World) (hr : w.cell? pr = some (.pointer (some ⟨b, 0, none⟩))) (h : Rd w b s a 0) (hs : s.size ≤ 9223372036854775807) (ha : a < s.size) (hf : 1 < bt s a) :
    Calls Try.prog 119 #[.pointer (some pr), .pointer (some pn)] w fun e w' => e = .panicked [thrown 4] ∧ ∃ a', RB b s a' w w' := by
  have H := Lib.hid h
  have c1 := h.txt; have c2 := h.pos
  have hbt := get_bt s
  have hne : ((a : Int) == (s.size : Int)) = false := by simp; omega
  clear h
  go_enter Try.func119, Try.ntmps119
  go_wp2_with fail
  go_quiet (fail)
  obtain ⟨k1, hk1⟩ : ∃ k, k = nq := ⟨_, rfl⟩
  rw [← hk1]
  go_wp2_with fail
  go_quiet (fail)
  go_wp2
  exact ⟨rfl, rfl, _, rd_draws H.out _⟩
set_option maxRecDepth 100000 in
set_option maxHeartbeats 1600000 in
theorem sFlag_good (pr pn : Addr) (b : Nat) (s : ByteArray) (a : Nat) (v0 : Value) (w : World) (hr : w.cell? pr = some (.pointer (some ⟨b, 0, none⟩))) (hn : w.cell? pn = some v0) (hz : w.frozen? pn = false) (hp : pn.block ≠ b) (hpr : pr.block ≠ b) (hpp : pr.block ≠ pn.block) (h : Rd w b s a 0) (hs : s.size ≤ 9223372036854775807) (ha : a < s.size) (hf : ¬ 1 < bt s a) :
    Calls Try.prog 119 #[.pointer (some pr), .pointer (some pn)] w fun e w' => e = .returned (.tuple #[]) ∧ RC b pn s ((a : Int) + 1) (.bool (bt s a == 1)) w w' := by
  have H := Lib.hid h
  have c1 := h.txt; have c2 := h.pos
  have hbt := get_bt s
  have hne : ((a : Int) == (s.size : Int)) = false := by simp; omega
  have HN := Lib.hid hn; have HZ := Lib.hid hz; have HR := Lib.hid hr
  have hadd : IntKind.i64.wrap ((a : Int) + 1) = (a : Int) + 1 := IntWalk.i64_in _ ⟨by omega, by omega⟩
  clear h hn hz
  go_enter Try.func119, Try.ntmps119
  go_wp2_with fail
  go_quiet (fail)
  obtain ⟨k1, hk1⟩ : ∃ k, k = nq := ⟨_, rfl⟩
  rw [← hk1]
  go_wp2_with fail
  go_quiet (fail)
  go_wp2_with fail
  obtain ⟨w2, hw2⟩ : ∃ w2, w2 = (w.drewN k1).drewN nq := ⟨_, rfl⟩
  have d1 : w2.drew.cell? pr = some (.pointer (some ⟨b, 0, none⟩)) := by rw [hw2]; exact HR.out
  have d4 : w2.drew.cell? pn = some v0 := by rw [hw2]; exact HN.out
  have d5 : w2.drew.frozen? pn = false := by rw [hw2]; exact HZ.out
  have HB2 : Hid (RB b s a w w2.drew) := Lib.hid (by rw [hw2]; exact ⟨(rd_draws2 H.out k1 nq).1.draws 1, (rd_draws2 H.out k1 nq).2.below (below_draws (Below.refl _ _) 1)⟩)
  have HS : Hid (SX pr pn b s a w2.drew) := Lib.hid ⟨d1, HB2.out.2.txt, HB2.out.2.pos, pv_some d4, d5⟩
  have HD := Lib.hid d4; have HE := Lib.hid d1
  have HF := Lib.hid (RC.of (v := .bool (bt s a == 1)) HB2.out d4 hp)
  rw [← hw2]
  clear c1 c2 hw2 d1 d4 d5 hr
  go_region_held3 (fun w' => w'.cell? pr = some (.pointer (some ⟨b, 0, none⟩)) ∧ w'.cell? ⟨b, 1, none⟩ = some (.string s) ∧ w'.cell? ⟨b, 2, none⟩ = some (.int .i64 a) ∧ w'.cell? pn = some (PV pn w') ∧ w'.frozen? pn = false) (first | exact HS.out | exact SX.set hpp hp (by assumption) _ | assumption) (fail)
  have e1 : (w2.setCell pn (.bool (bt s a == 1))).drew.cell? pr = some (.pointer (some ⟨b, 0, none⟩)) := (World.cell?_setCell_far w2.drew pn pr _ (fun e => hpp e.symm)).trans HE.out
  have e2 : (w2.setCell pn (.bool (bt s a == 1))).drew.cell? ⟨b, 2, none⟩ = some (.int .i64 a) := HF.out.2.1.pos
  have e3 : (w2.setCell pn (.bool (bt s a == 1))).drew.frozen? ⟨b, 2, none⟩ = false := HF.out.2.1.fr2
  have HG := Lib.hid (HF.out.pos hp ((a : Int) + 1))
  rename_i hHeld
  clear hHeld
  go_wp2
  go_end0
  exact ⟨rfl, HG.out⟩
/-- What Flag answers and keeps. -/
def flagR (s : ByteArray) (a : Nat) (x : Int) : Bool × Int × Int :=
  if x ≠ 0 then (false, a, x) else if a = s.size then (false, a, 2) else if 1 < bt s a then (false, a, 4) else (bt s a == 1, (a : Int) + 1, 0)
set_option maxRecDepth 100000 in
set_option maxHeartbeats 1600000 in
theorem rFlag_any (b : Nat) (s : ByteArray) (a : Nat) (x : Int) (w : World) (h : Rd w b s a x) (hs : s.size ≤ 9223372036854775807) (ha : a ≤ s.size) :
    Calls Try.prog 89 #[.pointer (some ⟨b, 0, none⟩)] w fun e w' => e = .returned (.bool (flagR s a x).1) ∧ RE w' b s (flagR s a x).2.1 (flagR s a x).2.2 ∧ But (Own b) w w' := by
  have hmf : ∀ (fn : Fn) (first cap : Array Value) (w : World), (Instr.makeFunc fn first cap).run Try.prog w = .ok (.func fn first cap) w := fun _ _ _ _ => rfl
  obtain ⟨W, hW⟩ : ∃ W, W = ((w.alloc (.cells #[.pointer (some ⟨b, 0, none⟩)] 157)).alloc (.cells #[.bool false] 4)) := ⟨_, rfl⟩
  have hl := lay2 w (.pointer (some ⟨b, 0, none⟩)) (.bool false) 157 4
  rw [← hW] at hl
  obtain ⟨l0, l1, l3, l4⟩ := hl
  have H1 := Lib.hid (h.below l0)
  have HB := Lib.hid (But.of_below (S := Own b) l0)
  have hlt := h.lt
  have k1 := rBox_below W (.pointer (some ⟨b, 0, none⟩))
  have H2 := Lib.hid (H1.out.below k1)
  have HB2 := Lib.hid (But.of_below (S := Own b) k1)
  have L1 := Lib.hid (cell_below k1 l1); have L3 := Lib.hid (cell_below k1 l3)
  have L4 : Hid ((rBox W (.pointer (some ⟨b, 0, none⟩))).frozen? ⟨w.heap.size + 1, 0, none⟩ = false) := Lib.hid (by rw [k1.frozen (World.block_lt_of_cell? W _ l3)]; exact l4)
  have HW := Lib.hid hW; have M3 := Lib.hid l3
  have hF : ∀ u, Sem.run Try.prog (callFunc 119 #[.pointer (some ⟨w.heap.size, 0, none⟩), .pointer (some ⟨w.heap.size + 1, 0, none⟩)]) u = .ok (.enter 119 #[.pointer (some ⟨w.heap.size, 0, none⟩), .pointer (some ⟨w.heap.size + 1, 0, none⟩)]) u := fun _ => rfl
  have hd : w.heap.size + 1 ≠ b := by omega
  have HFn := Lib.hid hF
  clear h l0 l1 l3 l4 k1 hF
  go_enter Try.func89, Try.ntmps89
  go_wp2_with fail
  rw [← HW.out]
  refine Calls.mono (R := fun e w' => e = .returned (.tuple #[]) ∧ w'.cell? ⟨w.heap.size + 1, 0, none⟩ = some (.bool (flagR s a x).1) ∧ RE w' b s (flagR s a x).2.1 (flagR s a x).2.2 ∧ But (Own b) w w') ?_ ?_
  · by_cases hx : x = 0
    · subst hx
      by_cases hu : a = s.size
      · have hq : flagR s a 0 = (false, (a : Int), 2) := by unfold flagR; rw [if_neg (by simp), if_pos hu]
        rw [hq]
        have H3 : Rd (rBox W (.pointer (some ⟨b, 0, none⟩))) b s s.size 0 := by rw [← hu]; exact H2.out
        refine (take_bad b s a 2 _ _ HFn.out _ H1.out (sFlag_end _ _ b s _ L1.out H3 hs)).mono ?_
        rintro e w1 ⟨rfl, a', r1, r2⟩
        exact ⟨rfl, r1.cell (a := ⟨w.heap.size + 1, 0, none⟩) hd M3.out, RE.bad (by simp) r2, HB.out.trans r1⟩
      · by_cases hf : 1 < bt s a
        · have hq : flagR s a 0 = (false, (a : Int), 4) := by unfold flagR; rw [if_neg (by simp), if_neg hu, if_pos hf]
          rw [hq]
          refine (take_bad b s a 4 _ _ HFn.out _ H1.out (sFlag_form _ _ b s a _ L1.out H2.out hs (by omega) hf)).mono ?_
          rintro e w1 ⟨rfl, a', r1, r2⟩
          exact ⟨rfl, r1.cell (a := ⟨w.heap.size + 1, 0, none⟩) hd M3.out, RE.bad (by simp) r2, HB.out.trans r1⟩
        · have hq : flagR s a 0 = (bt s a == 1, (a : Int) + 1, 0) := by unfold flagR; rw [if_neg (by simp), if_neg hu, if_neg hf]
          rw [hq]
          refine (take_good b s a _ _ _ HFn.out _ H1.out (sFlag_good _ _ b s a _ _ L1.out L3.out L4.out hd (by simp only; omega) (by simp only; omega) H2.out hs (by omega) hf)).mono ?_
          rintro e w1 ⟨rfl, r1, r2, r3⟩
          refine ⟨rfl, r3, RE.good r2, (HB.out.trans HB2.out).fresh r1 (fun k hk hS => ?_)⟩
          rcases hS with hS | hS
          · exact hS
          · simp only at hS; omega
    · have hq : flagR s a x = (false, (a : Int), x) := by unfold flagR; rw [if_pos hx]
      rw [hq]
      refine (take_err b s a x _ _ H1.out hx).mono ?_
      rintro e w1 ⟨rfl, r1⟩
      exact ⟨rfl, cell_below r1 M3.out, RE.bad hx (H1.out.below r1), HB.out.trans (But.of_below r1)⟩
  rintro e w1 ⟨rfl, r1, r2, r3⟩
  have R2 := Lib.hid r2; have R3 := Lib.hid r3; clear r2 r3
  go_wp2
  go_ret
  exact ⟨rfl, R2.out, R3.out⟩
end Go.Proofs.Ythmljllgfigebaa

/- Package wire: a reader is opened; what is left; one that nobody made. Conditions: texts of at most 2^63-1 bytes. -/
namespace Go.Proofs.Ythmljllgfigebaa
open Go.RowKit Go.PlainAid

set_option maxRecDepth 100000 in
set_option maxHeartbeats 1600000 in
theorem open_any (s : ByteArray) (w : World) :
    Calls Try.prog 87 #[.string s] w fun e w' => e = .returned (.pointer (some ⟨w.heap.size, 0, none⟩)) ∧ Rd w' w.heap.size s 0 0 ∧ Below w.heap.size w w' := by
  go_enter Try.func87, Try.ntmps87
  go_wp2
  go_ret
  exact ⟨rfl, ⟨by simp, by simp, by simp, by simp, by simp, by simp⟩, (Below.refl _ _).alloc (Nat.le_refl _) _⟩
set_option maxRecDepth 100000 in
set_option maxHeartbeats 1600000 in
theorem left_ok (b : Nat) (s : ByteArray) (a : Nat) (w : World) (h : Rd w b s a 0) (hs : s.size ≤ 9223372036854775807) (ha : a ≤ s.size) :
    Calls Try.prog 121 #[.pointer (some ⟨b, 0, none⟩)] w fun e w' => e = .returned (.int .i64 ((s.size : Int) - a)) ∧ Below w.heap.size w w' := by
  have H := Lib.hid h
  have c1 := h.txt; have c2 := h.pos
  have hsub : IntKind.i64.wrap ((s.size : Int) - (a : Int)) = (s.size : Int) - (a : Int) := IntWalk.i64_in _ ⟨by omega, by omega⟩
  clear h
  go_enter Try.func121, Try.ntmps121
  go_wp2_with fail
  refine (err_made b s a 0 _ H.out).mono ?_
  rintro e w1 ⟨rfl, rfl⟩
  go_wp2_with fail
  go_quiet (fail)
  go_wp2
  go_ret
  exact ⟨rfl, below_draws (Below.refl _ _) _⟩
set_option maxRecDepth 100000 in
set_option maxHeartbeats 1600000 in
theorem left_err (b : Nat) (s : ByteArray) (a x : Int) (w : World) (h : Rd w b s a x) (hx : x ≠ 0) :
    Calls Try.prog 121 #[.pointer (some ⟨b, 0, none⟩)] w fun e w' => e = .returned (.int .i64 0) ∧ w = w' := by
  have H := Lib.hid h
  clear h
  have hq : (x != 0) = true := by simp [hx]
  go_enter Try.func121, Try.ntmps121
  go_wp2_with fail
  refine (err_made b s a x _ H.out).mono ?_
  rintro e w1 ⟨rfl, rfl⟩
  go_wp2
  go_ret
  exact ⟨rfl, rfl⟩
set_option maxRecDepth 100000 in
set_option maxHeartbeats 1600000 in
theorem end_err (b : Nat) (s : ByteArray) (a x : Int) (w : World) (h : Rd w b s a x) (hx : x ≠ 0) :
    Calls Try.prog 91 #[.pointer (some ⟨b, 0, none⟩)] w fun e w' => e = .returned (.int .i64 x) ∧ w = w' := by
  have H := Lib.hid h
  clear h
  go_enter Try.func91, Try.ntmps91
  go_wp2_with fail
  refine (left_err b s a x _ H.out hx).mono ?_
  rintro e w1 ⟨rfl, rfl⟩
  go_wp2_with fail
  refine (err_made b s a x _ H.out).mono ?_
  rintro e w1 ⟨rfl, rfl⟩
  go_wp2
  go_ret
  exact ⟨rfl, rfl⟩
/-- A reader that nobody made: there is none, or it is a zero one. -/
def NoRd (w : World) (p : Value) : Prop := p = .pointer none ∨ ∃ b, p = .pointer (some ⟨b, 0, none⟩) ∧ w.cell? ⟨b, 0, none⟩ = some (.bool false)
theorem NoRd.below {w w' : World} {p : Value} (h : NoRd w p) (hb : Below w.heap.size w w') : NoRd w' p := by
  rcases h with h | ⟨b, h, hc⟩
  · exact Or.inl h
  · exact Or.inr ⟨b, h, cell_below hb hc⟩
theorem NoRd.ptr {w : World} {p : Value} (h : NoRd w p) : ∃ o, p = .pointer o := by rcases h with rfl | ⟨b, rfl, _⟩ <;> exact ⟨_, rfl⟩
theorem err_no (p : Value) (w : World) (h : NoRd w p) : Calls Try.prog 122 #[p] w fun e w' => e = .returned (.int .i64 8) ∧ w = w' := by
  rcases h with rfl | ⟨b, rfl, hc⟩
  · exact err_nil w
  · exact err_unmade b w hc
set_option maxRecDepth 100000 in
set_option maxHeartbeats 1600000 in
theorem left_no (p : Value) (w : World) (h : NoRd w p) :
    Calls Try.prog 121 #[p] w fun e w' => e = .returned (.int .i64 0) ∧ w = w' := by
  have H := Lib.hid h
  clear h
  go_enter Try.func121, Try.ntmps121
  go_wp2_with fail
  refine (err_no p _ H.out).mono ?_
  rintro e w1 ⟨rfl, rfl⟩
  go_wp2
  go_ret
  exact ⟨rfl, rfl⟩
set_option maxRecDepth 100000 in
set_option maxHeartbeats 1600000 in
theorem end_no (p : Value) (w : World) (h : NoRd w p) :
    Calls Try.prog 91 #[p] w fun e w' => e = .returned (.int .i64 8) ∧ w = w' := by
  have H := Lib.hid h
  clear h
  go_enter Try.func91, Try.ntmps91
  go_wp2_with fail
  refine (left_no p _ H.out).mono ?_
  rintro e w1 ⟨rfl, rfl⟩
  go_wp2_with fail
  refine (err_no p _ H.out).mono ?_
  rintro e w1 ⟨rfl, rfl⟩
  go_wp2
  go_ret
  exact ⟨rfl, rfl⟩
set_option maxRecDepth 100000 in
set_option maxHeartbeats 1600000 in
theorem end_ok (b : Nat) (s : ByteArray) (a : Nat) (w : World) (h : Rd w b s a 0) (hs : s.size ≤ 9223372036854775807) (ha : a ≤ s.size) :
    Calls Try.prog 91 #[.pointer (some ⟨b, 0, none⟩)] w fun e w' => e = .returned (.int .i64 (if a < s.size then 4 else 0)) ∧ Below w.heap.size w w' := by
  have H := Lib.hid h
  clear h
  by_cases hlt : a < s.size
  · rw [if_pos hlt]
    have hq : 0 < (s.size : Int) - (a : Int) := by omega
    go_enter Try.func91, Try.ntmps91
    go_wp2_with fail
    refine (left_ok b s a _ H.out hs ha).mono ?_
    rintro e w1 ⟨rfl, hb⟩
    have HB := Lib.hid hb; clear hb
    go_wp2
    go_ret
    exact ⟨rfl, HB.out⟩
  · rw [if_neg hlt]
    have hq : ¬ 0 < (s.size : Int) - (a : Int) := by omega
    go_enter Try.func91, Try.ntmps91
    go_wp2_with fail
    refine (left_ok b s a _ H.out hs ha).mono ?_
    rintro e w1 ⟨rfl, hb⟩
    have HB := Lib.hid hb; have H1 := Lib.hid (H.out.below hb); clear hb
    go_wp2_with fail
    refine (err_made b s a 0 _ H1.out).mono ?_
    rintro e w2 ⟨rfl, rfl⟩
    go_wp2
    go_ret
    exact ⟨rfl, HB.out⟩
set_option maxRecDepth 100000 in
set_option maxHeartbeats 1600000 in
theorem take_no (p st : Value) (w : World) (h : NoRd w p) :
    Calls Try.prog 116 #[p, st] w fun e w' => e = .returned (.tuple #[]) ∧ Below w.heap.size w w' := by
  have hb1 := rBox_below w p
  have H1 := Lib.hid (h.below hb1)
  have HB := Lib.hid hb1
  obtain ⟨o, rfl⟩ := h.ptr
  clear h hb1
  go_enter_defers Try.func116, Try.ntmps116
  go_wp2_with fail
  refine (err_no _ _ H1.out).mono ?_
  rintro e w1 ⟨rfl, rfl⟩
  go_wp2
  simp [bodyPostD, Leaves, settle, results, Try.results116]
  exact HB.out
set_option maxRecDepth 100000 in
set_option maxHeartbeats 1600000 in
theorem rNum_no (p : Value) (m : Int) (w : World) (h : NoRd w p) :
    Calls Try.prog 88 #[p, .int .i64 m] w fun e w' => e = .returned (.int .i64 0) ∧ Below w.heap.size w w' := by
  have hmf : ∀ (fn : Fn) (first cap : Array Value) (w : World), (Instr.makeFunc fn first cap).run Try.prog w = .ok (.func fn first cap) w := fun _ _ _ _ => rfl
  obtain ⟨o, rfl⟩ := h.ptr
  obtain ⟨W, hW⟩ : ∃ W, W = (((w.alloc (.cells #[.pointer o] 157)).alloc (.cells #[.int .i64 m] 3)).alloc (.cells #[.int .i64 0] 3)) := ⟨_, rfl⟩
  have hl := lay3 w (.pointer o) (.int .i64 m) (.int .i64 0) 157 3 3
  rw [← hW] at hl
  obtain ⟨l0, l1, l2, l3, l4⟩ := hl
  have H1 := Lib.hid (h.below l0)
  have HB := Lib.hid l0
  have HW := Lib.hid hW; have M3 := Lib.hid l3
  clear h l0 l1 l2 l3 l4
  go_enter Try.func88, Try.ntmps88
  go_wp2_with fail
  rw [← HW.out]
  refine (take_no _ _ _ H1.out).mono ?_
  rintro e w1 ⟨rfl, r1⟩
  have r3 := cell_below r1 M3.out
  have R2 := Lib.hid (HB.out.trans (r1.mono HB.out.size)); clear r1
  go_wp2
  go_ret
  exact ⟨rfl, R2.out⟩
-- left out here























set_option maxRecDepth 100000 in
set_option maxHeartbeats 1600000 in
theorem rText_no (p : Value) (m : Int) (w : World) (h : NoRd w p) :
    Calls Try.prog 90 #[p, .int .i64 m] w fun e w' => e = .returned (.string ⟨#[]⟩) ∧ Below w.heap.size w w' := by
  have hmf : ∀ (fn : Fn) (first cap : Array Value) (w : World), (Instr.makeFunc fn first cap).run Try.prog w = .ok (.func fn first cap) w := fun _ _ _ _ => rfl
  obtain ⟨o, rfl⟩ := h.ptr
  obtain ⟨W, hW⟩ : ∃ W, W = (((w.alloc (.cells #[.pointer o] 157)).alloc (.cells #[.int .i64 m] 3)).alloc (.cells #[.string ⟨#[]⟩] 9)) := ⟨_, rfl⟩
  have hl := lay3 w (.pointer o) (.int .i64 m) (.string ⟨#[]⟩) 157 3 9
  rw [← hW] at hl
  obtain ⟨l0, l1, l2, l3, l4⟩ := hl
  have H1 := Lib.hid (h.below l0)
  have HB := Lib.hid l0
  have HW := Lib.hid hW; have M3 := Lib.hid l3
  clear h l0 l1 l2 l3 l4
  go_enter Try.func90, Try.ntmps90
  go_wp2_with fail
  rw [← HW.out]
  refine (take_no _ _ _ H1.out).mono ?_
  rintro e w1 ⟨rfl, r1⟩
  have r3 := cell_below r1 M3.out
  have R2 := Lib.hid (HB.out.trans (r1.mono HB.out.size)); clear r1
  go_wp2
  go_ret
  exact ⟨rfl, R2.out⟩
set_option maxRecDepth 100000 in
set_option maxHeartbeats 1600000 in
theorem rFlag_no (p : Value) (w : World) (h : NoRd w p) :
    Calls Try.prog 89 #[p] w fun e w' => e = .returned (.bool false) ∧ Below w.heap.size w w' := by
  have hmf : ∀ (fn : Fn) (first cap : Array Value) (w : World), (Instr.makeFunc fn first cap).run Try.prog w = .ok (.func fn first cap) w := fun _ _ _ _ => rfl
  obtain ⟨o, rfl⟩ := h.ptr
  obtain ⟨W, hW⟩ : ∃ W, W = ((w.alloc (.cells #[.pointer o] 157)).alloc (.cells #[.bool false] 4)) := ⟨_, rfl⟩
  have hl := lay2 w (.pointer o) (.bool false) 157 4
  rw [← hW] at hl
  obtain ⟨l0, l1, l3, l4⟩ := hl
  have H1 := Lib.hid (h.below l0)
  have HB := Lib.hid l0
  have HW := Lib.hid hW; have M3 := Lib.hid l3
  clear h l0 l1 l3 l4
  go_enter Try.func89, Try.ntmps89
  go_wp2_with fail
  rw [← HW.out]
  refine (take_no _ _ _ H1.out).mono ?_
  rintro e w1 ⟨rfl, r1⟩
  have r3 := cell_below r1 M3.out
  have R2 := Lib.hid (HB.out.trans (r1.mono HB.out.size)); clear r1
  go_wp2
  go_ret
  exact ⟨rfl, R2.out⟩
set_option maxRecDepth 100000 in
set_option maxHeartbeats 1600000 in
theorem open_size (s : ByteArray) (w : World) :
    Calls Try.prog 87 #[.string s] w fun e w' => e = .returned (.pointer (some ⟨w.heap.size, 0, none⟩)) ∧ Rd w' w.heap.size s 0 0 ∧ w'.heap.size = w.heap.size + 1 ∧ Below w.heap.size w w' := by
  go_enter Try.func87, Try.ntmps87
  go_wp2
  go_ret
  exact ⟨rfl, ⟨by simp, by simp, by simp, by simp, by simp, by simp⟩, by simp, (Below.refl _ _).alloc (Nat.le_refl _) _⟩
theorem RE.ok {w : World} {b : Nat} {s : ByteArray} {a : Int} (h : RE w b s a 0) : Rd w b s a 0 := by unfold RE at h; rw [if_pos rfl] at h; exact h
end Go.Proofs.Ythmljllgfigebaa
