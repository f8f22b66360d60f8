/- Package wire: a reader's take. Conditions: none. -/
import Derived.Test.YteioaaegooebpaaGreatWireG
namespace Go.Proofs.YteioaaegooebpaaGreat
open Go.RowKit Go.PlainAid

set_option maxRecDepth 100000 in
set_option maxHeartbeats 1600000 in
theorem rcatch_idle (p : Addr) (w : World) :
    CallsD Tryz.prog 149 #[.pointer (some p)] .returning w fun e u' w' => e = .returned (.tuple #[]) ∧ u' = .returning ∧ w' = w := by
  refine callsD_of_wpS Tryz.func149 rfl fun c₀ cs hu => ?_
  apply wpS_seq
  apply wpS_region
  simp [wpOpsS, go_sem, recoverD, hu, Tryz.ntmps149, Exit.thenS, ta_nil, ta_err]
  apply wpS_seq
  apply wpS_region
  simp [wpOpsS, go_sem, recoverD, hu, Exit.thenS]
  refine wpS_cond (t := false) (by simp [Act.eval, Array.replicate]) ?_
  simp only [Bool.false_eq_true, if_false]
  refine wpS_of_wp (wp_skip ?_)
  cases c₀
  simp_all [bodyPostS, results, Tryz.results149]
set_option maxRecDepth 100000 in
set_option maxHeartbeats 1600000 in
theorem rcatch_errno (p : Addr) (b : Nat) (x y : Int) (older : List PanicEntry) (w : World) (hp : w.cell? p = some (.pointer (some ⟨b, 0, none⟩))) (hc : w.cell? ⟨b, 3, none⟩ = some (.int .i64 y)) (hz : w.frozen? ⟨b, 3, none⟩ = false) :
    CallsD Tryz.prog 149 #[.pointer (some p)] (.panicking ({ v := .iface 23 (.int .i64 x), recovered := false } :: older)) w fun e u' w' => e = .returned (.tuple #[]) ∧ u' = .panicking ({ v := .iface 23 (.int .i64 x), recovered := true } :: older) ∧ w' = w.setCell ⟨b, 3, none⟩ (.int .i64 x) := by
  refine callsD_of_wpS Tryz.func149 rfl fun c₀ cs hu => ?_
  apply wpS_seq
  apply wpS_region
  simp [wpOpsS, go_sem, recoverD, hu, Tryz.ntmps149, Exit.thenS, ta_nil, ta_err]
  apply wpS_seq
  apply wpS_region
  simp [wpOpsS, go_sem, recoverD, hu, Exit.thenS]
  refine wpS_cond (t := true) (by simp [Act.eval, Array.replicate]) ?_
  simp only [if_true]
  apply wpS_region
  simp [wpOpsS, go_sem, hp, hc, hz, bodyPostS, results, Tryz.results149]
set_option maxRecDepth 100000 in
set_option maxHeartbeats 1600000 in
theorem err_made (b : Nat) (s : ByteArray) (a x : Int) (w : World) (h : Rd w b s a x) :
    Calls Tryz.prog 59 #[.pointer (some ⟨b, 0, none⟩)] w fun e w' => e = .returned (.int .i64 x) ∧ w = w' := by
  have c0 := h.made; have c3 := h.err
  clear h
  go_enter Tryz.func59, Tryz.ntmps59
  go_wp2
  go_ret
  exact ⟨rfl, rfl⟩
set_option maxRecDepth 100000 in
set_option maxHeartbeats 1600000 in
theorem err_unmade (b : Nat) (w : World) (h : w.cell? ⟨b, 0, none⟩ = some (.bool false)) :
    Calls Tryz.prog 59 #[.pointer (some ⟨b, 0, none⟩)] w fun e w' => e = .returned (.int .i64 8) ∧ w = w' := by
  go_enter Tryz.func59, Tryz.ntmps59
  go_wp2
  go_ret
  exact ⟨rfl, rfl⟩
set_option maxRecDepth 100000 in
set_option maxHeartbeats 1600000 in
theorem err_nil (w : World) :
    Calls Tryz.prog 59 #[.pointer none] w fun e w' => e = .returned (.int .i64 8) ∧ w = w' := by
  go_enter Tryz.func59, Tryz.ntmps59
  go_wp2
  go_ret
  exact ⟨rfl, rfl⟩
/-- A reader's box. -/
def rBox (w : World) (p : Value) : World := w.alloc (.cells #[p] 103)
theorem rBox_below (w : World) (p : Value) : Below w.heap.size w (rBox w p) := (Below.refl _ _).alloc (Nat.le_refl _) _
theorem rBox_cell (w : World) (p : Value) : (rBox w p).cell? ⟨w.heap.size, 0, none⟩ = some p := by simp [rBox]
set_option maxRecDepth 100000 in
set_option maxHeartbeats 1600000 in
theorem take_good (b : Nat) (s : ByteArray) (a : Int) (F : FuncId) (cs : Array Value) (Post : World → Prop) (hF : ∀ w, Sem.run Tryz.prog (callFunc F cs) w = .ok (.enter F cs) w) (w : World) (h : Rd w b s a 0) (hst : Calls Tryz.prog F cs (rBox w (.pointer (some ⟨b, 0, none⟩))) fun e w' => e = .returned (.tuple #[]) ∧ Post w') :
    Calls Tryz.prog 116 #[.pointer (some ⟨b, 0, none⟩), .func (.func F) #[] cs] w fun e w' => e = .returned (.tuple #[]) ∧ Post w' := by
  have hmf : ∀ (fn : Fn) (first cap : Array Value) (w : World), (Instr.makeFunc fn first cap).run Tryz.prog w = .ok (.func fn first cap) w := fun _ _ _ _ => rfl
  have H1 := Lib.hid (h.below (rBox_below w (.pointer (some ⟨b, 0, none⟩))))
  have HS := Lib.hid hst
  clear h hst
  go_enter_defers Tryz.func116, Tryz.ntmps116
  go_wp2_with fail
  refine (err_made b s a 0 _ H1.out).mono ?_
  rintro e w1 ⟨rfl, rfl⟩
  go_wp2_with fail
  refine HS.out.mono ?_
  rintro e w2 ⟨rfl, hm⟩
  have HM := Lib.hid hm
  clear hm
  go_wp2
  refine leaves_cons (f := 149) (args := #[.pointer (some ⟨w.heap.size, 0, none⟩)]) (by simp) (by simp [go_sem]) ?_
  refine (rcatch_idle _ _).mono ?_
  rintro e u' w'' ⟨rfl, rfl, rfl⟩
  simp only [Leaves, settle, results, Tryz.results116]
  simp
  exact HM.out
set_option maxRecDepth 100000 in
set_option maxHeartbeats 1600000 in
theorem take_bad (b : Nat) (s : ByteArray) (a x : Int) (F : FuncId) (cs : Array Value) (hF : ∀ w, Sem.run Tryz.prog (callFunc F cs) w = .ok (.enter F cs) w) (w : World) (h : Rd w b s a 0) (hst : Calls Tryz.prog F cs (rBox w (.pointer (some ⟨b, 0, none⟩))) fun e w' => e = .panicked [thrown x] ∧ ∃ a', RB b s a' (rBox w (.pointer (some ⟨b, 0, none⟩))) w') :
    Calls Tryz.prog 116 #[.pointer (some ⟨b, 0, none⟩), .func (.func F) #[] cs] w fun e w' => e = .returned (.tuple #[]) ∧ ∃ a', But (Own b) w w' ∧ Rd w' b s a' x := by
  have hmf : ∀ (fn : Fn) (first cap : Array Value) (w : World), (Instr.makeFunc fn first cap).run Tryz.prog w = .ok (.func fn first cap) w := fun _ _ _ _ => rfl
  have hb1 := rBox_below w (.pointer (some ⟨b, 0, none⟩))
  have H1 := Lib.hid (h.below hb1)
  have HB1 := Lib.hid (But.of_below (S := Own b) hb1)
  have HP := Lib.hid (rBox_cell w (.pointer (some ⟨b, 0, none⟩)))
  have hlt : ¬ Own b w.heap.size := by have := h.lt; unfold Own; omega
  have HL := Lib.hid hlt
  have HS := Lib.hid hst
  clear h hst hb1 hlt
  go_enter_defers Tryz.func116, Tryz.ntmps116
  go_wp2_with fail
  refine (err_made b s a 0 _ H1.out).mono ?_
  rintro e w1 ⟨rfl, rfl⟩
  go_wp2_with fail
  refine HS.out.mono ?_
  rintro e w2 ⟨rfl, a', hm⟩
  have HM := Lib.hid hm
  have HP2 := Lib.hid (hm.1.cell (a := ⟨w.heap.size, 0, none⟩) HL.out HP.out)
  clear hm
  go_wp2
  refine leaves_cons (f := 149) (args := #[.pointer (some ⟨w.heap.size, 0, none⟩)]) (by simp) (by simp [go_sem]) ?_
  refine (rcatch_errno _ b x 0 [] _ HP2.out HM.out.2.err HM.out.2.fr3).mono ?_
  rintro e u' w'' ⟨rfl, rfl, rfl⟩
  have HF := Lib.hid (HM.out.2.setErr x)
  have HB2 := Lib.hid ((HB1.out.trans HM.out.1).setCell (p := ⟨b, 3, none⟩) (fun _ => rfl) (.int .i64 x))
  simp [Leaves, settle, results, Tryz.results116, go_sem]
  exact ⟨HB2.out, a', HF.out⟩
set_option maxRecDepth 100000 in
set_option maxHeartbeats 1600000 in
theorem take_err (b : Nat) (s : ByteArray) (a x : Int) (st : Value) (w : World) (h : Rd w b s a x) (hx : x ≠ 0) :
    Calls Tryz.prog 116 #[.pointer (some ⟨b, 0, none⟩), st] w fun e w' => e = .returned (.tuple #[]) ∧ Below w.heap.size w w' := by
  have hb1 := rBox_below w (.pointer (some ⟨b, 0, none⟩))
  have H1 := Lib.hid (h.below hb1)
  have HB := Lib.hid hb1
  have hq : (x != 0) = true := by simp [hx]
  clear h hb1
  go_enter_defers Tryz.func116, Tryz.ntmps116
  go_wp2_with fail
  refine (err_made b s a x _ H1.out).mono ?_
  rintro e w1 ⟨rfl, rfl⟩
  go_wp2
  simp [bodyPostD, Leaves, settle, results, Tryz.results116]
  exact HB.out
end Go.Proofs.YteioaaegooebpaaGreat
