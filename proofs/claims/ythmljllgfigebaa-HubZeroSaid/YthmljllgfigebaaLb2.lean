/- Put together: WireA, WireB, WireC, WireD, WireE, WireF. Conditions: as each says. -/
import Derived.Test.YthmljllgfigebaaVnA
import Derived.Test.YthmljllgfigebaaAppStr
import Derived.Defers
import Derived.Recover
import Derived.Laws.Pointers
import Derived.WalkLawsBesides
import Derived.Laws.BytesArg
/- Package wire: a writer, what it gathers. Conditions: none. -/
namespace Go.Proofs.Ythmljllgfigebaa
open Go.RowKit Go.PlainAid

theorem putL_le (n : Int) : (putL n).length ≤ 9 := by
  have := wd_bd n
  unfold putL
  split
  · simp
  · rw [List.length_cons, be_len]; omega
/-- A writer that was made: block b; its bytes lie from block B on. -/
structure Wr (w : World) (b B : Nat) (l : List UInt8) (e : Int) : Prop where
  made : w.cell? ⟨b, 0, none⟩ = some (.bool true)
  err : w.cell? ⟨b, 2, none⟩ = some (.int .i64 e)
  fr1 : w.frozen? ⟨b, 1, none⟩ = false
  fr2 : w.frozen? ⟨b, 2, none⟩ = false
  lt : b < B
  le : B ≤ w.heap.size
  buf : ∃ v, w.cell? ⟨b, 1, none⟩ = some v ∧ w.ownsRow B 5 1 v l.length (bs l)

theorem bs_app (l k : List UInt8) : bs (l ++ k) = bs l ++ bs k := by simp [bs]
theorem bs_str (s : ByteArray) : Lib.strCells s = bs s.data.toList := rfl
/-- A row is as it was where its own block is. -/
theorem row_but {S : Nat → Prop} {B : Nat} {e : TypeId} {k : Nat} {v : Value} {n : Nat} {xs : List Value} {w w' : World} (h : w.ownsRow B e k v n xs) (hb : But S w w') (hs : ∀ i, B ≤ i → ¬ S i) : w'.ownsRow B e k v n xs := by
  obtain ⟨h1, h2⟩ := h
  refine ⟨h1, ?_⟩
  rcases h2 with h2 | ⟨g, cap, cur, hv, hg, hh, r⟩
  · exact Or.inl h2
  · exact Or.inr ⟨g, cap, cur, hv, hg, by rw [hb.block g (Array.getElem?_eq_some_iff.1 hh).1 (hs g hg)]; exact hh, r⟩
theorem Wr.but {S : Nat → Prop} {w w' : World} {b B : Nat} {l : List UInt8} {e : Int} (h : Wr w b B l e) (hb : But S w w') (hs : ¬ S b) (hB : ∀ i, B ≤ i → ¬ S i) : Wr w' b B l e := by
  have hl : b < w.heap.size := World.block_lt_of_cell? w _ h.made
  obtain ⟨v, hc, ho⟩ := h.buf
  exact ⟨hb.cell hs h.made, hb.cell hs h.err, by rw [hb.frozen hl hs]; exact h.fr1, by rw [hb.frozen hl hs]; exact h.fr2, h.lt, Nat.le_trans h.le hb.size, v, hb.cell hs hc, row_but ho hb hB⟩
theorem Wr.below {w w' : World} {b B : Nat} {l : List UInt8} {e : Int} (h : Wr w b B l e) (hb : Below w.heap.size w w') : Wr w' b B l e := h.but (But.of_below (S := fun _ => False) hb) id (fun _ _ => id)
theorem Wr.setErr {w : World} {b B : Nat} {l : List UInt8} {e : Int} (h : Wr w b B l e) (e' : Int) : Wr (w.setCell ⟨b, 2, none⟩ (.int .i64 e')) b B l e' := by
  obtain ⟨v, hc, ho⟩ := h.buf
  refine ⟨?_, World.cell?_setCell_same _ _ _ h.err, by rw [World.frozen?_setCell]; exact h.fr1, by rw [World.frozen?_setCell]; exact h.fr2, h.lt, by rw [World.size_setCell]; exact h.le, v, ?_, ownsRow_setCell_below ho h.lt _⟩
  · rw [World.cell?_setCell_other _ _ _ _ (by simp)]; exact h.made
  · rw [World.cell?_setCell_other _ _ _ _ (by simp)]; exact hc
theorem fr_grown {w w2 w3 : World} {b : Nat} {row : Option Nat} (hb : Below w.heap.size w w2) (hg : w2.grownBy w3 row) (hl : b < w.heap.size) (hne : some b ≠ row) (hf : w.frozen? ⟨b, 1, none⟩ = false) : w3.frozen? ⟨b, 1, none⟩ = false := by
  rw [World.frozen?_of_block (w := w2) (hg.block b (Nat.lt_of_lt_of_le hl hb.size) hne), hb.frozen hl]; exact hf
/-- What a writer's calls turn. -/
def WrOnly (b B k : Nat) : Prop := k = b ∨ B ≤ k

/-- The block in which the bytes lie. -/
def rowOf (w : World) (b : Nat) : Option Nat := match w.cell? ⟨b, 1, none⟩ with | some v => v.ownBlock | none => none
/-- What one call turns: the writer, its bytes. -/
def Rw (w : World) (b k : Nat) : Prop := k = b ∨ rowOf w b = some k
theorem rowOf_cell {w : World} {b : Nat} {v : Value} (h : w.cell? ⟨b, 1, none⟩ = some v) : rowOf w b = v.ownBlock := by unfold rowOf; rw [h]
theorem Wr.row {w : World} {b B : Nat} {l : List UInt8} {e : Int} (h : Wr w b B l e) {k : Nat} (hk : rowOf w b = some k) : B ≤ k ∧ k < w.heap.size := by
  obtain ⟨v, hc, ho⟩ := h.buf
  rw [rowOf_cell hc] at hk
  exact ho.lt k hk
theorem Wr.only {w : World} {b B : Nat} {l : List UInt8} {e : Int} (h : Wr w b B l e) {k : Nat} (hk : Rw w b k) : WrOnly b B k := by
  rcases hk with hk | hk
  · exact Or.inl hk
  · exact Or.inr (h.row hk).1
theorem Wr.rw_below {w w' : World} {b B : Nat} {l : List UInt8} {e : Int} (h : Wr w b B l e) (hb : Below w.heap.size w w') : rowOf w' b = rowOf w b := by
  obtain ⟨v, hc, _⟩ := h.buf
  rw [rowOf_cell hc, rowOf_cell (cell_below hb hc)]
theorem Wr.rw_back {w w' : World} {b B : Nat} {l : List UInt8} {e : Int} (h : Wr w b B l e) (hb : Below w.heap.size w w') {k : Nat} (hk : Rw w' b k) : Rw w b k := by
  unfold Rw at hk ⊢; rwa [h.rw_below hb] at hk
theorem But.grown {S : Nat → Prop} {w w' : World} {row : Option Nat} (hg : w.grownBy w' row) (hs : ∀ k, row = some k → S k) : But S w w' :=
  ⟨hg.os, hg.tape, hg.output, hg.size, fun k hk hn => hg.block k hk (fun e => hn (hs k e.symm))⟩
/-- The bytes stay in their block, or go into a new one. -/
def Keep (w w' : World) (b : Nat) : Prop := ∀ k, rowOf w' b = some k → rowOf w b = some k ∨ w.heap.size ≤ k
theorem Wr.grow {w w2 w3 : World} {b B : Nat} {l : List UInt8} {e : Int} {row : Option Nat} {ao : Option Addr} {c : Nat} {s : ByteArray} (h : Wr w b B l e) (hb : Below w.heap.size w w2) (hg : w2.grownBy w3 row) (hne : some b ≠ row) (hrow : row = rowOf w b)
    (hown : w3.ownsRow B 5 1 (.slice ao (l.length + s.size) c) (l.length + s.size) (bs l ++ Lib.strCells s)) (hfr : (Value.slice ao (l.length + s.size) c).ownBlock = row ∨ ∀ k, (Value.slice ao (l.length + s.size) c).ownBlock = some k → w2.heap.size ≤ k) :
    Wr (w3.setCell ⟨b, 1, none⟩ (.slice ao (l.length + s.size) c)) b B (l ++ s.data.toList) e ∧ But (Rw w b) w (w3.setCell ⟨b, 1, none⟩ (.slice ao (l.length + s.size) c)) ∧ Keep w (w3.setCell ⟨b, 1, none⟩ (.slice ao (l.length + s.size) c)) b := by
  have hl : b < w.heap.size := Nat.lt_of_lt_of_le h.lt h.le
  have hn : (l ++ s.data.toList).length = l.length + s.size := by rw [List.length_append]; simp
  have hB3 : But (Rw w b) w w3 := (But.of_below hb).trans (But.grown hg (fun k hk => Or.inr (by rw [← hrow]; exact hk)))
  have kb : ∀ j v, w.cell? ⟨b, j, none⟩ = some v → w3.cell? ⟨b, j, none⟩ = some v := fun j v hc => hg.cell (a := ⟨b, j, none⟩) (cell_below hb hc) hne
  have fb : ∀ j, w3.frozen? ⟨b, j, none⟩ = w.frozen? ⟨b, j, none⟩ := fun j => by
    rw [World.frozen?_of_block (w := w2) (hg.block b (Nat.lt_of_lt_of_le hl hb.size) hne), hb.frozen hl]
  obtain ⟨v, hc, _⟩ := h.buf
  refine ⟨⟨?_, ?_, by rw [World.frozen?_setCell, fb]; exact h.fr1, by rw [World.frozen?_setCell, fb]; exact h.fr2, h.lt, by rw [World.size_setCell]; exact Nat.le_trans h.le hB3.size, _, World.cell?_setCell_same _ _ _ (kb 1 _ hc), ?_⟩, hB3.setCell (p := ⟨b, 1, none⟩) (fun _ => Or.inl rfl) _, fun k hk => ?_⟩
  · rw [World.cell?_setCell_other _ _ _ _ (by simp)]; exact kb 0 _ h.made
  · rw [World.cell?_setCell_other _ _ _ _ (by simp)]; exact kb 2 _ h.err
  · refine ownsRow_setCell_below ?_ h.lt _
    rw [hn, bs_app, ← bs_str]; exact hown
  · rw [rowOf_cell (World.cell?_setCell_same _ _ _ (kb 1 _ hc))] at hk
    rcases hfr with hf | hf
    · rw [hf, hrow] at hk; exact Or.inl hk
    · exact Or.inr (Nat.le_trans hb.size (hf k hk))

set_option maxRecDepth 100000 in
set_option maxHeartbeats 1600000 in
theorem big_any (b B : Nat) (l : List UInt8) (e : Int) (n : Int) (w : World) (h : Wr w b B l e) (hl : l.length ≤ 140737488355000) (h0 : 0 ≤ n) (h1 : n < 18446744073709551616) :
    Calls Try.prog 111 #[.pointer (some ⟨b, 0, none⟩), .int .u64 n] w fun x w' => x = .returned (.tuple #[]) ∧ Wr w' b B (l ++ putL n) e ∧ But (Rw w b) w w' ∧ Keep w w' b := by
  obtain ⟨i0, hi, hz0, hz1, hz2⟩ := info_parts info_u8
  have H := Lib.hid h
  obtain ⟨v, hc, ho⟩ := h.buf
  obtain ⟨ao, cp, rfl, _⟩ := row_view ho
  have k1 : w.drew.cell? ⟨b, 1, none⟩ = some (.slice ao l.length cp) := hc
  have HC := Lib.hid hc; have HO := Lib.hid ho
  have hbs : b < w.heap.size := Nat.lt_of_lt_of_le h.lt h.le
  have hlt := h.lt
  have hpl : (putL n).length ≤ 9 := putL_le n
  have hp1 : (⟨(putL n).toArray⟩ : ByteArray).size = (putL n).length := rfl
  have hA : Hid (l.length + (⟨(putL n).toArray⟩ : ByteArray).size ≤ maxLen) := Lib.hid (by unfold maxLen; omega)
  have hBy : Hid (l.length + (⟨(putL n).toArray⟩ : ByteArray).size ≤ 140737488355328) := Lib.hid (by omega)
  have hne : Hid (some b ≠ (Value.slice ao l.length cp).ownBlock) := Lib.hid (fun e => by
    cases ao with
    | none => cases e
    | some a =>
      have h9 := (ho.lt a.block rfl).1
      have : b = a.block := by simpa [Value.ownBlock] using e
      omega)
  have hrow : Hid ((Value.slice ao l.length cp).ownBlock = rowOf w b) := Lib.hid (rowOf_cell hc).symm
  clear h hc ho hp1
  go_enter Try.func111, Try.ntmps111
  go_wp2_with fail
  go_region_law (first | (go_simp; go_at_call 131; refine Calls.mono (put_any n _ h0 h1) ?_; rintro e w2 ⟨rfl, hb2⟩; have hb3 : Below w.heap.size w w2 := Below.trans ((Below.refl _ _).drew) hb2; have c1 := cell_below hb3 HC.out; have HO2 := Lib.hid (row_below HO.out hb3); have HB2 := Lib.hid hb3; clear hb2 hb3) | (refine step_append_str rfl (.tmp 8) (.tmp 10) 44 9 rfl B 5 i0 Try.underlying44 Try.underlying9 hi hz0 hz1 hz2 _ l.length _ rfl HO2.out ⟨(putL n).toArray⟩ rfl hA.out hBy.out (Nat.le_trans H.out.le HB2.out.size) ?_; intro ao3 c3 w3 hown3 hgr3 hfr3; have HFr3 := Lib.hid hfr3; have c4 := hgr3.cell c1 hne.out; have z4 : w3.frozen? ⟨b, 1, none⟩ = false := fr_grown HB2.out hgr3 hbs hne.out H.out.fr1; have HO3 := Lib.hid hown3; have HG3 := Lib.hid hgr3; clear hown3 hgr3 hfr3))
  all_goals
    have HF := Lib.hid (H.out.grow HB2.out HG3.out hne.out hrow.out HO3.out HFr3.out)
    go_wp2
    go_end0
    exact ⟨rfl, HF.out.1, HF.out.2.1, HF.out.2.2⟩
end Go.Proofs.Ythmljllgfigebaa

/- Package wire: what a deferred closure makes of a panic. Conditions: none. -/
namespace Go.Proofs.Ythmljllgfigebaa
open Go.RowKit Go.PlainAid

theorem ta_nil (w : World) : (Instr.typeAssert Value.nilIface 20 54 true).run Try.prog w = .ok (.tuple #[.int .i64 0, .bool false]) w := by kernel_rfl
theorem ta_err (x : Int) (w : World) : (Instr.typeAssert (.iface 54 (.int .i64 x)) 20 54 true).run Try.prog w = .ok (.tuple #[.int .i64 x, .bool true]) w := by kernel_rfl
set_option maxRecDepth 100000 in
set_option maxHeartbeats 1600000 in
theorem catch_idle (p : Addr) (w : World) :
    CallsD Try.prog 136 #[.pointer (some p)] .returning w fun e u' w' => e = .returned (.tuple #[]) ∧ u' = .returning ∧ w' = w := by
  refine callsD_of_wpS Try.func136 rfl fun c₀ cs hu => ?_
  apply wpS_seq
  apply wpS_region
  simp [wpOpsS, go_sem, recoverD, hu, Try.ntmps136, Exit.thenS, ta_nil, ta_err]
  apply wpS_seq
  apply wpS_region
  simp [wpOpsS, go_sem, recoverD, hu, Exit.thenS]
  refine wpS_cond (t := false) (by simp [Act.eval, Array.replicate]) ?_
  simp only [Bool.false_eq_true, if_false]
  refine wpS_of_wp (wp_skip ?_)
  cases c₀
  simp_all [bodyPostS, results, Try.results136]
set_option maxRecDepth 100000 in
set_option maxHeartbeats 1600000 in
theorem catch_errno (p : Addr) (b : Nat) (x y : Int) (older : List PanicEntry) (w : World) (hp : w.cell? p = some (.pointer (some ⟨b, 0, none⟩))) (hc : w.cell? ⟨b, 2, none⟩ = some (.int .i64 y)) (hz : w.frozen? ⟨b, 2, none⟩ = false) :
    CallsD Try.prog 136 #[.pointer (some p)] (.panicking ({ v := .iface 54 (.int .i64 x), recovered := false } :: older)) w fun e u' w' => e = .returned (.tuple #[]) ∧ u' = .panicking ({ v := .iface 54 (.int .i64 x), recovered := true } :: older) ∧ w' = w.setCell ⟨b, 2, none⟩ (.int .i64 x) := by
  refine callsD_of_wpS Try.func136 rfl fun c₀ cs hu => ?_
  apply wpS_seq
  apply wpS_region
  simp [wpOpsS, go_sem, recoverD, hu, Try.ntmps136, Exit.thenS, ta_nil, ta_err]
  apply wpS_seq
  apply wpS_region
  simp [wpOpsS, go_sem, recoverD, hu, Exit.thenS]
  refine wpS_cond (t := true) (by simp [Act.eval, Array.replicate]) ?_
  simp only [if_true]
  apply wpS_region
  simp [wpOpsS, go_sem, hp, hc, hz, bodyPostS, results, Try.results136]
end Go.Proofs.Ythmljllgfigebaa

/- Package wire: a number is written. Conditions: none. -/
namespace Go.Proofs.Ythmljllgfigebaa
open Go.RowKit Go.PlainAid

def errV (x : Int) : PanicEntry := { v := .iface 54 (.int .i64 x), recovered := false }
set_option maxRecDepth 100000 in
set_option maxHeartbeats 1600000 in
theorem stepNum_bad (pn pw : Addr) (b : Nat) (n : Int) (w : World) (hn : w.cell? pn = some (.int .i64 n)) (hw : w.cell? pw = some (.pointer (some ⟨b, 0, none⟩))) (h0 : n < 0) :
    Calls Try.prog 110 #[.pointer (some pn), .pointer (some pw)] w fun e w' => e = .panicked [errV 5] ∧ w = w' := by
  go_enter Try.func110, Try.ntmps110
  go_wp2
  exact ⟨rfl, rfl, rfl⟩
set_option maxRecDepth 100000 in
set_option maxHeartbeats 1600000 in
theorem stepNum_good (pn pw : Addr) (b B : Nat) (l : List UInt8) (n : Int) (w : World) (hn : w.cell? pn = some (.int .i64 n)) (hw : w.cell? pw = some (.pointer (some ⟨b, 0, none⟩))) (h : Wr w b B l 0) (hl : l.length ≤ 140737488355000) (h0 : 0 ≤ n) (h1 : n ≤ 9223372036854775807) :
    Calls Try.prog 110 #[.pointer (some pn), .pointer (some pw)] w fun e w' => e = .returned (.tuple #[]) ∧ Wr w' b B (l ++ putL n) 0 ∧ But (Rw w b) w w' := by
  have H := Lib.hid h; clear h
  have hwu : IntKind.u64.wrap n = n := u64_nonneg h0 (by omega)
  go_enter Try.func110, Try.ntmps110
  go_wp2_with fail
  refine (big_any b B l 0 n _ H.out hl h0 (by omega)).mono ?_
  rintro e w1 ⟨rfl, hm, hb, _⟩
  have HM := Lib.hid hm; have HB := Lib.hid hb; clear hm hb
  go_wp2
  go_end0
  exact ⟨rfl, HM.out, HB.out⟩

set_option maxRecDepth 100000 in
set_option maxHeartbeats 1600000 in
theorem runNum_good (pn pw : Addr) (b B : Nat) (l : List UInt8) (n : Int) (w : World) (hn : w.cell? pn = some (.int .i64 n)) (hw : w.cell? pw = some (.pointer (some ⟨b, 0, none⟩))) (h : Wr w b B l 0) (hl : l.length ≤ 140737488355000) (h0 : 0 ≤ n) (h1 : n ≤ 9223372036854775807) :
    Calls Try.prog 130 #[.pointer (some ⟨b, 0, none⟩), .func (.func 110) #[] #[.pointer (some pn), .pointer (some pw)]] w fun e w' => e = .returned (.tuple #[]) ∧ Wr w' b B (l ++ putL n) 0 ∧ But (Rw w b) w w' := by
  have hmf : ∀ (fn : Fn) (first cap : Array Value) (w : World), (Instr.makeFunc fn first cap).run Try.prog w = .ok (.func fn first cap) w := fun _ _ _ _ => rfl
  have hb1 : Below w.heap.size w (w.alloc (.cells #[.pointer (some ⟨b, 0, none⟩)] 146)) := (Below.refl _ _).alloc (Nat.le_refl _) _
  have H1 := Lib.hid (h.below hb1)
  have HRB := Lib.hid (fun k (hk : Rw _ b k) => h.rw_back hb1 hk)
  have hn1 := cell_below hb1 hn; have hw1 := cell_below hb1 hw
  have hbx : But (Rw w b) w (w.alloc (.cells #[.pointer (some ⟨b, 0, none⟩)] 146)) := But.of_below hb1
  have HN1 := Lib.hid hn1; have HW1 := Lib.hid hw1; have HBX := Lib.hid hbx
  clear hn hw h hb1 hn1 hw1 hbx
  go_enter_defers Try.func130, Try.ntmps130
  go_wp2_with fail
  refine (stepNum_good pn pw b B l n _ HN1.out HW1.out H1.out hl h0 h1).mono ?_
  rintro e w2 ⟨rfl, hm, hb⟩
  have HM := Lib.hid hm
  have HB := Lib.hid (HBX.out.trans (hb.mono (fun k _ hk => HRB.out k hk)))
  clear hm hb
  go_wp2
  refine leaves_cons (f := 136) (args := #[.pointer (some ⟨w.heap.size, 0, none⟩)]) (by simp) (by simp [go_sem]) ?_
  refine (catch_idle _ _).mono ?_
  rintro e u' w'' ⟨rfl, rfl, rfl⟩
  simp only [Leaves, settle, results, Try.results130]
  simp
  exact ⟨HM.out, HB.out⟩
set_option maxRecDepth 100000 in
set_option maxHeartbeats 1600000 in
theorem runNum_bad (pn pw : Addr) (b B : Nat) (l : List UInt8) (n : Int) (w : World) (hn : w.cell? pn = some (.int .i64 n)) (hw : w.cell? pw = some (.pointer (some ⟨b, 0, none⟩))) (h : Wr w b B l 0) (h0 : n < 0) :
    Calls Try.prog 130 #[.pointer (some ⟨b, 0, none⟩), .func (.func 110) #[] #[.pointer (some pn), .pointer (some pw)]] w fun e w' => e = .returned (.tuple #[]) ∧ Wr w' b B l 5 ∧ But (Rw w b) w w' := by
  have hmf : ∀ (fn : Fn) (first cap : Array Value) (w : World), (Instr.makeFunc fn first cap).run Try.prog w = .ok (.func fn first cap) w := fun _ _ _ _ => rfl
  have hb1 : Below w.heap.size w (w.alloc (.cells #[.pointer (some ⟨b, 0, none⟩)] 146)) := (Below.refl _ _).alloc (Nat.le_refl _) _
  have H1 := Lib.hid (h.below hb1)
  have HRB := Lib.hid (fun k (hk : Rw _ b k) => h.rw_back hb1 hk)
  have hn1 := cell_below hb1 hn; have hw1 := cell_below hb1 hw
  have hbx : But (Rw w b) w (w.alloc (.cells #[.pointer (some ⟨b, 0, none⟩)] 146)) := But.of_below hb1
  have HN1 := Lib.hid hn1; have HW1 := Lib.hid hw1; have HBX := Lib.hid hbx
  have HP : Hid ((w.alloc (.cells #[.pointer (some ⟨b, 0, none⟩)] 146)).cell? ⟨w.heap.size, 0, none⟩ = some (.pointer (some ⟨b, 0, none⟩))) := Lib.hid (by simp)
  clear hn hw h hb1 hn1 hw1 hbx
  go_enter_defers Try.func130, Try.ntmps130
  go_wp2_with fail
  refine (stepNum_bad pn pw b n _ HN1.out HW1.out h0).mono ?_
  rintro e w2 ⟨rfl, rfl⟩
  go_wp2
  refine leaves_cons (f := 136) (args := #[.pointer (some ⟨w.heap.size, 0, none⟩)]) (by simp) (by simp [go_sem]) ?_
  refine (catch_errno _ b 5 0 [] _ HP.out H1.out.err H1.out.fr2).mono ?_
  rintro e u' w'' ⟨rfl, rfl, rfl⟩
  have HF := Lib.hid (H1.out.setErr 5)
  have HB2 := Lib.hid (HBX.out.setCell (p := ⟨b, 2, none⟩) (fun _ => Or.inl rfl) (.int .i64 5))
  simp [Leaves, settle, results, Try.results130, go_sem]
  exact ⟨HF.out, HB2.out⟩
end Go.Proofs.Ythmljllgfigebaa

/- Package wire: a big number, a text, a flag are written. Conditions: none. -/
namespace Go.Proofs.Ythmljllgfigebaa
open Go.RowKit Go.PlainAid

-- left out here












theorem Wr.buf_form {w : World} {b B : Nat} {l : List UInt8} {e : Int} (h : Wr w b B l e) : ∃ ao cp, w.cell? ⟨b, 1, none⟩ = some (.slice ao l.length cp) ∧ w.ownsRow B 5 1 (.slice ao l.length cp) l.length (bs l) ∧ some b ≠ (Value.slice ao l.length cp).ownBlock ∧ (Value.slice ao l.length cp).ownBlock = rowOf w b := by
  obtain ⟨v, hc, ho⟩ := h.buf
  obtain ⟨ao, cp, rfl, _⟩ := row_view ho
  refine ⟨ao, cp, hc, ho, fun e => ?_, (rowOf_cell hc).symm⟩
  have := (ho.lt b e.symm).1
  have := h.lt
  omega
set_option maxRecDepth 100000 in
set_option maxHeartbeats 1600000 in
theorem stepText (pn pw : Addr) (b B : Nat) (l : List UInt8) (s : ByteArray) (w : World) (hn : w.cell? pn = some (.string s)) (hw : w.cell? pw = some (.pointer (some ⟨b, 0, none⟩))) (h : Wr w b B l 0) (hl : l.length + s.size ≤ 140737488355000) (hpn : ¬ Rw w b pn.block) (hpw : ¬ Rw w b pw.block) :
    Calls Try.prog 113 #[.pointer (some pw), .pointer (some pn)] w fun e w' => e = .returned (.tuple #[]) ∧ Wr w' b B (l ++ putL (s.size : Int) ++ s.data.toList) 0 ∧ But (Rw w b) w w' := by
  obtain ⟨i0, hi, hz0, hz1, hz2⟩ := info_parts info_u8
  have H := Lib.hid h
  have hwu : IntKind.u64.wrap (s.size : Int) = (s.size : Int) := u64_nonneg (by omega) (by omega)
  have HPN := Lib.hid hpn; have HPW := Lib.hid hpw; have HN := Lib.hid hn; have HW := Lib.hid hw
  obtain ⟨m, hme⟩ : ∃ m, m = l ++ putL (s.size : Int) := ⟨_, rfl⟩
  simp only [← hme]
  have HMe := Lib.hid hme
  have hml : m.length ≤ l.length + 9 := by rw [hme, List.length_append]; have := putL_le (s.size : Int); omega
  clear hpn hpw hme
  go_enter Try.func113, Try.ntmps113
  go_wp2_with fail
  refine (big_any b B l 0 (s.size : Int) _ H.out (by omega) (by omega) (by omega)).mono ?_
  rintro e w2 ⟨rfl, hm, hb, hkp⟩
  rw [← HMe.out] at hm
  have HM := Lib.hid hm; have HB := Lib.hid hb; have HKP := Lib.hid hkp
  have n2 := hb.cell HPN.out HN.out; have p2 := hb.cell HPW.out HW.out
  have hrn : ∀ q : Addr, ¬ Rw w b q.block → q.block < w.heap.size → ¬ (rowOf w2 b = some q.block) := fun q h1 h2 h3 => by
    rcases hkp _ h3 with h4 | h4
    · exact h1 (Or.inr h4)
    · omega
  have hrp := hrn pw HPW.out (World.block_lt_of_cell? w _ HW.out)
  have hrs := hrn pn HPN.out (World.block_lt_of_cell? w _ HN.out)
  obtain ⟨ao, cp, hc, ho, hne, hrow⟩ := HM.out.buf_form
  have hqp : Hid (some pw.block ≠ (Value.slice ao m.length cp).ownBlock) := Lib.hid (fun e => hrp (by rw [← hrow]; exact e.symm))
  have hqn : Hid (some pn.block ≠ (Value.slice ao m.length cp).ownBlock) := Lib.hid (fun e => hrs (by rw [← hrow]; exact e.symm))
  have P2 := Lib.hid p2; have N2 := Lib.hid n2
  have hbs : b < w2.heap.size := Nat.lt_of_lt_of_le HM.out.lt HM.out.le
  have hA : Hid (m.length + s.size ≤ maxLen) := Lib.hid (by unfold maxLen; omega)
  have hBy : Hid (m.length + s.size ≤ 140737488355328) := Lib.hid (by omega)
  have HO : Hid (w2.drew.ownsRow B 5 1 (.slice ao m.length cp) m.length (bs m)) := Lib.hid ho
  have HNe := Lib.hid hne; have HRow := Lib.hid hrow; have HC := Lib.hid hc
  have HBd : Hid (Below w2.heap.size w2 w2.drew) := Lib.hid (Below.refl _ _).drew
  clear hn hw h hm hb ho hne hrow hwu hkp hrn hrp hrs
  go_wp2_with fail
  go_region_law (first | (refine step_append_str rfl (.tmp 11) (.tmp 12) 44 9 rfl B 5 i0 Try.underlying44 Try.underlying9 hi hz0 hz1 hz2 _ m.length _ rfl HO.out s rfl hA.out hBy.out HM.out.le ?_; intro ao3 c3 w3 hown3 hgr3 hfr3; have HFr3 := Lib.hid hfr3; have c4 := hgr3.cell HC.out HNe.out; have p4 := hgr3.cell P2.out hqp.out; have n4 := hgr3.cell N2.out hqn.out; have z4 : w3.frozen? ⟨b, 1, none⟩ = false := fr_grown HBd.out hgr3 hbs HNe.out HM.out.fr1; have HO3 := Lib.hid hown3; have HG3 := Lib.hid hgr3; clear hown3 hgr3 hfr3))
  all_goals
    have HF := Lib.hid (HM.out.grow HBd.out HG3.out HNe.out HRow.out HO3.out HFr3.out)
    have HBF := Lib.hid (HB.out.trans' HF.out.2.1 (fun i hi hk => by
      rcases hk with hk | hk
      · exact Or.inl hk
      · rcases HKP.out _ hk with h4 | h4
        · exact Or.inr h4
        · omega))
    go_wp2
    go_end0
    exact ⟨rfl, HF.out.1, HBF.out⟩
theorem fresh_lies {row : Option Nat} {g n c H H2 : Nat} (h : row = some g ∨ g = H) (hH : H2 ≤ H) : (Value.slice (some ⟨g, 0, none⟩) n c).ownBlock = row ∨ ∀ k, (Value.slice (some ⟨g, 0, none⟩) n c).ownBlock = some k → H2 ≤ k := by
  rcases h with h | h
  · exact Or.inl h.symm
  · exact Or.inr (fun k hk => by simp [Value.ownBlock] at hk; omega)
def flagB (f : Bool) : UInt8 := if f then 1 else 0
set_option maxRecDepth 100000 in
set_option maxHeartbeats 1600000 in
theorem stepFlag (pn pw : Addr) (b B : Nat) (l : List UInt8) (f : Bool) (w : World) (hn : w.cell? pn = some (.bool f)) (hw : w.cell? pw = some (.pointer (some ⟨b, 0, none⟩))) (h : Wr w b B l 0) (hl : l.length ≤ 140737488355000) (hpw : ¬ Rw w b pw.block) :
    Calls Try.prog 112 #[.pointer (some pn), .pointer (some pw)] w fun e w' => e = .returned (.tuple #[]) ∧ Wr w' b B (l ++ [flagB f]) 0 ∧ But (Rw w b) w w' := by
  obtain ⟨i0, hi, hz0, hz1, hz2⟩ := info_parts info_u8
  have H := Lib.hid h
  obtain ⟨ao, cp, hc, ho, hne, hrow⟩ := h.buf_form
  have hbs : b < w.heap.size := Nat.lt_of_lt_of_le h.lt h.le
  have hA : Hid (l.length + 1 ≤ maxLen) := Lib.hid (by unfold maxLen; omega)
  have hBy : Hid ((l.length + 1) * 1 ≤ 140737488355328) := Lib.hid (by omega)
  have hle := h.le
  have HNe := Lib.hid hne; have HRow := Lib.hid hrow; have HC := Lib.hid hc; have HO := Lib.hid ho
  have hqp : Hid (some pw.block ≠ (Value.slice ao l.length cp).ownBlock) := Lib.hid (fun e => hpw (Or.inr (by rw [← hrow]; exact e.symm)))
  have HW := Lib.hid hw; have HN := Lib.hid hn
  clear h ho hne hrow hpw hn hw
  cases f
  · have hbel : Below w.heap.size w (w.alloc (.cells #[.int .u8 0] 5)).drew := ((Below.refl _ _).alloc (Nat.le_refl _) _).drew
    have HB2 := Lib.hid hbel
    have p1 := cell_below hbel HW.out; have p0 := HW.out; have n0 := HN.out; have c0 := HC.out; have c1 := cell_below hbel HC.out
    have HSz : Hid ((w.alloc (.cells #[.int .u8 0] 5)).drew.heap.size = w.heap.size + 1) := Lib.hid (by simp [World.drew])
    have HOne : Hid (∀ u ∈ [Value.int .u8 0], u.oneCell' = true) := Lib.hid (by simp [Value.oneCell'])
    have HOa : Hid ((w.alloc (.cells #[.int .u8 0] 5)).drew.ownsRow B 5 1 (.slice ao l.length cp) l.length (bs l)) := Lib.hid (HO.out.alloc _)
    clear hbel
    go_enter Try.func112, Try.ntmps112
    go_wp2_with fail
    go_region_law (first | (refine step_append_lies _ rfl (.tmp 8) (.tmp 10) 44 rfl B 5 i0 (.int .u8 0) 1 1 Try.underlying44 hi hz0 hz1 hz2 rfl (by decide) _ l.length _ rfl HOa.out ⟨w.heap.size, 0, none⟩ 1 1 [.int .u8 0] rfl rfl (one_cell w _ _) HOne.out Nat.one_pos hA.out hBy.out (Nat.le_trans hle HB2.out.size) (w.heap.size + 1) HSz.out ?_; intro g3 c3 w3 hown3 hgr3 hg3 _; have hfr3 := fresh_lies (n := l.length + 1) (c := c3) hg3 (Nat.le_of_eq HSz.out); have HFr3 := Lib.hid hfr3; have p4 := hgr3.cell (cell_below HB2.out HW.out) hqp.out; have c4 := hgr3.cell (cell_below HB2.out HC.out) HNe.out; have z4 : w3.frozen? ⟨b, 1, none⟩ = false := fr_grown HB2.out hgr3 hbs HNe.out H.out.fr1; have HO3 := Lib.hid hown3; have HG3 := Lib.hid hgr3; clear hown3 hgr3 hfr3))
    all_goals
      have HF := Lib.hid (Wr.grow (s := ⟨#[0]⟩) H.out HB2.out HG3.out HNe.out HRow.out HO3.out HFr3.out)
      go_wp2
      go_end0
      exact ⟨rfl, HF.out.1, HF.out.2.1⟩
  · have hbel : Below w.heap.size w (w.alloc (.cells #[.int .u8 1] 5)).drew := ((Below.refl _ _).alloc (Nat.le_refl _) _).drew
    have HB2 := Lib.hid hbel
    have p1 := cell_below hbel HW.out; have p0 := HW.out; have n0 := HN.out; have c0 := HC.out; have c1 := cell_below hbel HC.out
    have HSz : Hid ((w.alloc (.cells #[.int .u8 1] 5)).drew.heap.size = w.heap.size + 1) := Lib.hid (by simp [World.drew])
    have HOne : Hid (∀ u ∈ [Value.int .u8 1], u.oneCell' = true) := Lib.hid (by simp [Value.oneCell'])
    have HOa : Hid ((w.alloc (.cells #[.int .u8 1] 5)).drew.ownsRow B 5 1 (.slice ao l.length cp) l.length (bs l)) := Lib.hid (HO.out.alloc _)
    clear hbel
    go_enter Try.func112, Try.ntmps112
    go_wp2_with fail
    go_region_law (first | (refine step_append_lies _ rfl (.tmp 8) (.tmp 10) 44 rfl B 5 i0 (.int .u8 0) 1 1 Try.underlying44 hi hz0 hz1 hz2 rfl (by decide) _ l.length _ rfl HOa.out ⟨w.heap.size, 0, none⟩ 1 1 [.int .u8 1] rfl rfl (one_cell w _ _) HOne.out Nat.one_pos hA.out hBy.out (Nat.le_trans hle HB2.out.size) (w.heap.size + 1) HSz.out ?_; intro g3 c3 w3 hown3 hgr3 hg3 _; have hfr3 := fresh_lies (n := l.length + 1) (c := c3) hg3 (Nat.le_of_eq HSz.out); have HFr3 := Lib.hid hfr3; have p4 := hgr3.cell (cell_below HB2.out HW.out) hqp.out; have c4 := hgr3.cell (cell_below HB2.out HC.out) HNe.out; have z4 : w3.frozen? ⟨b, 1, none⟩ = false := fr_grown HB2.out hgr3 hbs HNe.out H.out.fr1; have HO3 := Lib.hid hown3; have HG3 := Lib.hid hgr3; clear hown3 hgr3 hfr3))
    all_goals
      have HF := Lib.hid (Wr.grow (s := ⟨#[1]⟩) H.out HB2.out HG3.out HNe.out HRow.out HO3.out HFr3.out)
      go_wp2
      go_end0
      exact ⟨rfl, HF.out.1, HF.out.2.1⟩

-- left out here

























set_option maxRecDepth 100000 in
set_option maxHeartbeats 1600000 in
theorem runText (pn pw : Addr) (b B : Nat) (l : List UInt8) (s : ByteArray) (w : World) (hn : w.cell? pn = some (.string s)) (hw : w.cell? pw = some (.pointer (some ⟨b, 0, none⟩))) (h : Wr w b B l 0) (hl : l.length + s.size ≤ 140737488355000) (hpn : ¬ Rw w b pn.block) (hpw : ¬ Rw w b pw.block) :
    Calls Try.prog 130 #[.pointer (some ⟨b, 0, none⟩), .func (.func 113) #[] #[.pointer (some pw), .pointer (some pn)]] w fun e w' => e = .returned (.tuple #[]) ∧ Wr w' b B (l ++ putL (s.size : Int) ++ s.data.toList) 0 ∧ But (Rw w b) w w' := by
  have hmf : ∀ (fn : Fn) (first cap : Array Value) (w : World), (Instr.makeFunc fn first cap).run Try.prog w = .ok (.func fn first cap) w := fun _ _ _ _ => rfl
  have hb1 : Below w.heap.size w (w.alloc (.cells #[.pointer (some ⟨b, 0, none⟩)] 146)) := (Below.refl _ _).alloc (Nat.le_refl _) _
  have H1 := Lib.hid (h.below hb1)
  have HRB := Lib.hid (fun k (hk : Rw _ b k) => h.rw_back hb1 hk)
  have hn1 := cell_below hb1 hn; have hw1 := cell_below hb1 hw
  have hbx : But (Rw w b) w (w.alloc (.cells #[.pointer (some ⟨b, 0, none⟩)] 146)) := But.of_below hb1
  have HN1 := Lib.hid hn1; have HW1 := Lib.hid hw1; have HBX := Lib.hid hbx
  have HRow := Lib.hid (h.rw_below hb1)
  clear hn hw h hb1 hn1 hw1 hbx
  go_enter_defers Try.func130, Try.ntmps130
  go_wp2_with fail
  refine (stepText pn pw b B l s _ HN1.out HW1.out H1.out hl (by have := HRow.out; unfold Rw; rw [this]; exact hpn) (by have := HRow.out; unfold Rw; rw [this]; exact hpw)).mono ?_
  rintro e w2 ⟨rfl, hm, hb⟩
  have HM := Lib.hid hm
  have HB := Lib.hid (HBX.out.trans (hb.mono (fun k _ hk => HRB.out k hk)))
  clear hm hb
  go_wp2
  refine leaves_cons (f := 136) (args := #[.pointer (some ⟨w.heap.size, 0, none⟩)]) (by simp) (by simp [go_sem]) ?_
  refine (catch_idle _ _).mono ?_
  rintro e u' w'' ⟨rfl, rfl, rfl⟩
  simp only [Leaves, settle, results, Try.results130]
  simp
  exact ⟨by rw [← List.append_assoc]; exact HM.out, HB.out⟩
set_option maxRecDepth 100000 in
set_option maxHeartbeats 1600000 in
theorem runFlag (pn pw : Addr) (b B : Nat) (l : List UInt8) (f : Bool) (w : World) (hn : w.cell? pn = some (.bool f)) (hw : w.cell? pw = some (.pointer (some ⟨b, 0, none⟩))) (h : Wr w b B l 0) (hl : l.length ≤ 140737488355000) (hpw : ¬ Rw w b pw.block) :
    Calls Try.prog 130 #[.pointer (some ⟨b, 0, none⟩), .func (.func 112) #[] #[.pointer (some pn), .pointer (some pw)]] w fun e w' => e = .returned (.tuple #[]) ∧ Wr w' b B (l ++ [flagB f]) 0 ∧ But (Rw w b) w w' := by
  have hmf : ∀ (fn : Fn) (first cap : Array Value) (w : World), (Instr.makeFunc fn first cap).run Try.prog w = .ok (.func fn first cap) w := fun _ _ _ _ => rfl
  have hb1 : Below w.heap.size w (w.alloc (.cells #[.pointer (some ⟨b, 0, none⟩)] 146)) := (Below.refl _ _).alloc (Nat.le_refl _) _
  have H1 := Lib.hid (h.below hb1)
  have HRB := Lib.hid (fun k (hk : Rw _ b k) => h.rw_back hb1 hk)
  have hn1 := cell_below hb1 hn; have hw1 := cell_below hb1 hw
  have hbx : But (Rw w b) w (w.alloc (.cells #[.pointer (some ⟨b, 0, none⟩)] 146)) := But.of_below hb1
  have HN1 := Lib.hid hn1; have HW1 := Lib.hid hw1; have HBX := Lib.hid hbx
  have HRow := Lib.hid (h.rw_below hb1)
  clear hn hw h hb1 hn1 hw1 hbx
  go_enter_defers Try.func130, Try.ntmps130
  go_wp2_with fail
  refine (stepFlag pn pw b B l f _ HN1.out HW1.out H1.out hl (by have := HRow.out; unfold Rw; rw [this]; exact hpw)).mono ?_
  rintro e w2 ⟨rfl, hm, hb⟩
  have HM := Lib.hid hm
  have HB := Lib.hid (HBX.out.trans (hb.mono (fun k _ hk => HRB.out k hk)))
  clear hm hb
  go_wp2
  refine leaves_cons (f := 136) (args := #[.pointer (some ⟨w.heap.size, 0, none⟩)]) (by simp) (by simp [go_sem]) ?_
  refine (catch_idle _ _).mono ?_
  rintro e u' w'' ⟨rfl, rfl, rfl⟩
  simp only [Leaves, settle, results, Try.results130]
  simp
  exact ⟨HM.out, HB.out⟩
end Go.Proofs.Ythmljllgfigebaa

/- Package wire: a writer's calls. Conditions: none. -/
namespace Go.Proofs.Ythmljllgfigebaa
open Go.RowKit Go.PlainAid

set_option maxRecDepth 100000 in
set_option maxHeartbeats 1600000 in
theorem add_made (b B : Nat) (l : List UInt8) (st : Value) (Post : World → Prop) (w : World) (h : Wr w b B l 0) (hr : Calls Try.prog 130 #[.pointer (some ⟨b, 0, none⟩), st] w fun e w' => e = .returned (.tuple #[]) ∧ Post w') :
    Calls Try.prog 109 #[.pointer (some ⟨b, 0, none⟩), st] w fun e w' => e = .returned (.pointer (some ⟨b, 0, none⟩)) ∧ Post w' := by
  have c0 := h.made; have c2 := h.err
  clear h
  go_enter Try.func109, Try.ntmps109
  go_wp2_with fail
  refine hr.mono ?_
  rintro e w1 ⟨rfl, hb⟩
  have HB := Lib.hid hb; clear hb
  go_wp2
  go_ret
  exact ⟨rfl, HB.out⟩
set_option maxRecDepth 100000 in
set_option maxHeartbeats 1600000 in
theorem add_err (b B : Nat) (l : List UInt8) (x : Int) (st : Value) (w : World) (h : Wr w b B l x) (hx : x ≠ 0) :
    Calls Try.prog 109 #[.pointer (some ⟨b, 0, none⟩), st] w fun e w' => e = .returned (.pointer (some ⟨b, 0, none⟩)) ∧ w = w' := by
  have c0 := h.made; have c2 := h.err
  have hq : (x = 0) = False := by simp [hx]
  clear h
  go_enter Try.func109, Try.ntmps109
  go_wp2
  go_ret
  exact ⟨rfl, rfl⟩
set_option maxRecDepth 100000 in
set_option maxHeartbeats 1600000 in
theorem add_unmade (b : Nat) (st : Value) (w : World) (h : w.cell? ⟨b, 0, none⟩ = some (.bool false)) :
    Calls Try.prog 109 #[.pointer (some ⟨b, 0, none⟩), st] w fun e w' => e = .returned (.pointer (some ⟨b, 0, none⟩)) ∧ w = w' := by
  go_enter Try.func109, Try.ntmps109
  go_wp2
  go_ret
  exact ⟨rfl, rfl⟩
set_option maxRecDepth 100000 in
set_option maxHeartbeats 1600000 in
theorem add_nil (st : Value) (w : World) :
    Calls Try.prog 109 #[.pointer none, st] w fun e w' => e = .returned (.pointer none) ∧ w = w' := by
  go_enter Try.func109, Try.ntmps109
  go_wp2
  go_ret
  exact ⟨rfl, rfl⟩
/-- Two boxes are laid. -/
theorem two_boxes (w : World) (u v : Value) (t t' : TypeId) : Below w.heap.size w ((w.alloc (.cells #[u] t)).alloc (.cells #[v] t')) := ((Below.refl _ _).alloc (Nat.le_refl _) _).alloc (by simp) _
theorem Wr.not_rw {w w' : World} {b B : Nat} {l : List UInt8} {e : Int} (h : Wr w b B l e) (hb : Below w.heap.size w w') {k : Nat} (hk : w.heap.size ≤ k) : ¬ Rw w' b k := by
  have h1 := h.lt; have h2 := h.le
  rintro (h3 | h3)
  · omega
  · rw [h.rw_below hb] at h3
    have := (h.row h3).2
    omega
def wNum (n : Int) (p : List UInt8 × Int) : List UInt8 × Int := if p.2 ≠ 0 then p else if n < 0 then (p.1, 5) else (p.1 ++ putL n, 0)
def wBig (n : Int) (p : List UInt8 × Int) : List UInt8 × Int := if p.2 ≠ 0 then p else (p.1 ++ putL n, 0)
def wText (s : ByteArray) (p : List UInt8 × Int) : List UInt8 × Int := if p.2 ≠ 0 then p else (p.1 ++ putL (s.size : Int) ++ s.data.toList, 0)
def wFlag (f : Bool) (p : List UInt8 × Int) : List UInt8 × Int := if p.2 ≠ 0 then p else (p.1 ++ [flagB f], 0)
set_option maxRecDepth 100000 in
set_option maxHeartbeats 1600000 in
theorem wNum_rw (b B : Nat) (l : List UInt8) (x : Int) (n : Int) (w : World) (h : Wr w b B l x) (hl : l.length ≤ 140737488355000) (h1 : n ≤ 9223372036854775807) :
    Calls Try.prog 79 #[.pointer (some ⟨b, 0, none⟩), .int .i64 n] w fun e w' => e = .returned (.pointer (some ⟨b, 0, none⟩)) ∧ Wr w' b B (wNum n (l, x)).1 (wNum n (l, x)).2 ∧ But (Rw w b) w w' := by
  have hmf : ∀ (fn : Fn) (first cap : Array Value) (w : World), (Instr.makeFunc fn first cap).run Try.prog w = .ok (.func fn first cap) w := fun _ _ _ _ => rfl
  have hb1 := two_boxes w (.pointer (some ⟨b, 0, none⟩)) (.int .i64 n) 146 3
  have H1 := Lib.hid (h.below hb1)
  have HRB := Lib.hid (fun k (hk : Rw _ b k) => h.rw_back hb1 hk)
  have p1 : ((w.alloc (.cells #[.pointer (some ⟨b, 0, none⟩)] 146)).alloc (.cells #[.int .i64 n] 3)).cell? ⟨w.heap.size, 0, none⟩ = some (.pointer (some ⟨b, 0, none⟩)) := by simp
  have n1 : ((w.alloc (.cells #[.pointer (some ⟨b, 0, none⟩)] 146)).alloc (.cells #[.int .i64 n] 3)).cell? ⟨w.heap.size + 1, 0, none⟩ = some (.int .i64 n) := by simp
  have r1 := h.not_rw hb1 (k := w.heap.size) (Nat.le_refl _)
  have r2 := h.not_rw hb1 (k := w.heap.size + 1) (by omega)
  have HB := Lib.hid (But.of_below (S := Rw w b) hb1)
  have P1 := Lib.hid p1; have N1 := Lib.hid n1; have R1 := Lib.hid r1; have R2 := Lib.hid r2
  clear h hb1 n1 r1 r2
  go_enter Try.func79, Try.ntmps79
  go_wp2_with fail
  refine Calls.mono (R := fun e w' => e = .returned (.pointer (some ⟨b, 0, none⟩)) ∧ Wr w' b B (wNum n (l, x)).1 (wNum n (l, x)).2 ∧ But (Rw w b) w w') ?_ ?_
  · by_cases hx : x = 0
    · subst hx
      by_cases h9 : n < 0
      · have hq : wNum n (l, 0) = (l, 5) := by simp [wNum, h9]
        rw [hq]
        refine (add_made b B l _ _ _ H1.out (runNum_bad ⟨w.heap.size + 1, 0, none⟩ ⟨w.heap.size, 0, none⟩ b B l n _ N1.out P1.out H1.out h9)).mono ?_
        rintro e w1 ⟨rfl, hm, hb⟩
        exact ⟨rfl, hm, HB.out.trans (hb.mono (fun k _ hk => HRB.out k hk))⟩
      · have hq : wNum n (l, 0) = (l ++ putL n, 0) := by simp [wNum, h9]
        rw [hq]
        refine (add_made b B l _ _ _ H1.out (runNum_good ⟨w.heap.size + 1, 0, none⟩ ⟨w.heap.size, 0, none⟩ b B l n _ N1.out P1.out H1.out hl (by omega) h1)).mono ?_
        rintro e w1 ⟨rfl, hm, hb⟩
        exact ⟨rfl, hm, HB.out.trans (hb.mono (fun k _ hk => HRB.out k hk))⟩
    · refine (add_err b B l x _ _ H1.out hx).mono ?_
      rintro e w1 ⟨rfl, rfl⟩
      have hq : wNum n (l, x) = (l, x) := by simp [wNum, hx]
      rw [hq]
      exact ⟨rfl, H1.out, HB.out⟩
  rintro e w1 ⟨rfl, hm, hb⟩
  have HM := Lib.hid hm; have HB3 := Lib.hid hb; clear hm hb
  go_wp2
  go_ret
  exact ⟨rfl, HM.out, HB3.out⟩
-- left out here


































set_option maxRecDepth 100000 in
set_option maxHeartbeats 1600000 in
theorem wText_rw (b B : Nat) (l : List UInt8) (x : Int) (s : ByteArray) (w : World) (h : Wr w b B l x) (hl : l.length + s.size ≤ 140737488355000) :
    Calls Try.prog 81 #[.pointer (some ⟨b, 0, none⟩), .string s] w fun e w' => e = .returned (.pointer (some ⟨b, 0, none⟩)) ∧ Wr w' b B (wText s (l, x)).1 (wText s (l, x)).2 ∧ But (Rw w b) w w' := by
  have hmf : ∀ (fn : Fn) (first cap : Array Value) (w : World), (Instr.makeFunc fn first cap).run Try.prog w = .ok (.func fn first cap) w := fun _ _ _ _ => rfl
  have hb1 := two_boxes w (.pointer (some ⟨b, 0, none⟩)) (.string s) 146 9
  have H1 := Lib.hid (h.below hb1)
  have HRB := Lib.hid (fun k (hk : Rw _ b k) => h.rw_back hb1 hk)
  have p1 : ((w.alloc (.cells #[.pointer (some ⟨b, 0, none⟩)] 146)).alloc (.cells #[.string s] 9)).cell? ⟨w.heap.size, 0, none⟩ = some (.pointer (some ⟨b, 0, none⟩)) := by simp
  have n1 : ((w.alloc (.cells #[.pointer (some ⟨b, 0, none⟩)] 146)).alloc (.cells #[.string s] 9)).cell? ⟨w.heap.size + 1, 0, none⟩ = some (.string s) := by simp
  have r1 := h.not_rw hb1 (k := w.heap.size) (Nat.le_refl _)
  have r2 := h.not_rw hb1 (k := w.heap.size + 1) (by omega)
  have HB := Lib.hid (But.of_below (S := Rw w b) hb1)
  have P1 := Lib.hid p1; have N1 := Lib.hid n1; have R1 := Lib.hid r1; have R2 := Lib.hid r2
  clear h hb1 n1 r1 r2
  go_enter Try.func81, Try.ntmps81
  go_wp2_with fail
  refine Calls.mono (R := fun e w' => e = .returned (.pointer (some ⟨b, 0, none⟩)) ∧ Wr w' b B (wText s (l, x)).1 (wText s (l, x)).2 ∧ But (Rw w b) w w') ?_ ?_
  · by_cases hx : x = 0
    · subst hx
      have hq : wText s (l, 0) = (l ++ putL (s.size : Int) ++ s.data.toList, 0) := by simp [wText]
      rw [hq]
      refine (add_made b B l _ _ _ H1.out (runText ⟨w.heap.size + 1, 0, none⟩ ⟨w.heap.size, 0, none⟩ b B l s _ N1.out P1.out H1.out hl R2.out R1.out)).mono ?_
      rintro e w1 ⟨rfl, hm, hb⟩
      exact ⟨rfl, hm, HB.out.trans (hb.mono (fun k _ hk => HRB.out k hk))⟩
    · refine (add_err b B l x _ _ H1.out hx).mono ?_
      rintro e w1 ⟨rfl, rfl⟩
      have hq : wText s (l, x) = (l, x) := by simp [wText, hx]
      rw [hq]
      exact ⟨rfl, H1.out, HB.out⟩
  rintro e w1 ⟨rfl, hm, hb⟩
  have HM := Lib.hid hm; have HB3 := Lib.hid hb; clear hm hb
  go_wp2
  go_ret
  exact ⟨rfl, HM.out, HB3.out⟩
set_option maxRecDepth 100000 in
set_option maxHeartbeats 1600000 in
theorem wFlag_rw (b B : Nat) (l : List UInt8) (x : Int) (f : Bool) (w : World) (h : Wr w b B l x) (hl : l.length ≤ 140737488355000) :
    Calls Try.prog 80 #[.pointer (some ⟨b, 0, none⟩), .bool f] w fun e w' => e = .returned (.pointer (some ⟨b, 0, none⟩)) ∧ Wr w' b B (wFlag f (l, x)).1 (wFlag f (l, x)).2 ∧ But (Rw w b) w w' := by
  have hmf : ∀ (fn : Fn) (first cap : Array Value) (w : World), (Instr.makeFunc fn first cap).run Try.prog w = .ok (.func fn first cap) w := fun _ _ _ _ => rfl
  have hb1 := two_boxes w (.pointer (some ⟨b, 0, none⟩)) (.bool f) 146 4
  have H1 := Lib.hid (h.below hb1)
  have HRB := Lib.hid (fun k (hk : Rw _ b k) => h.rw_back hb1 hk)
  have p1 : ((w.alloc (.cells #[.pointer (some ⟨b, 0, none⟩)] 146)).alloc (.cells #[.bool f] 4)).cell? ⟨w.heap.size, 0, none⟩ = some (.pointer (some ⟨b, 0, none⟩)) := by simp
  have n1 : ((w.alloc (.cells #[.pointer (some ⟨b, 0, none⟩)] 146)).alloc (.cells #[.bool f] 4)).cell? ⟨w.heap.size + 1, 0, none⟩ = some (.bool f) := by simp
  have r1 := h.not_rw hb1 (k := w.heap.size) (Nat.le_refl _)
  have r2 := h.not_rw hb1 (k := w.heap.size + 1) (by omega)
  have HB := Lib.hid (But.of_below (S := Rw w b) hb1)
  have P1 := Lib.hid p1; have N1 := Lib.hid n1; have R1 := Lib.hid r1; have R2 := Lib.hid r2
  clear h hb1 n1 r1 r2
  go_enter Try.func80, Try.ntmps80
  go_wp2_with fail
  refine Calls.mono (R := fun e w' => e = .returned (.pointer (some ⟨b, 0, none⟩)) ∧ Wr w' b B (wFlag f (l, x)).1 (wFlag f (l, x)).2 ∧ But (Rw w b) w w') ?_ ?_
  · by_cases hx : x = 0
    · subst hx
      have hq : wFlag f (l, 0) = (l ++ [flagB f], 0) := by simp [wFlag]
      rw [hq]
      refine (add_made b B l _ _ _ H1.out (runFlag ⟨w.heap.size + 1, 0, none⟩ ⟨w.heap.size, 0, none⟩ b B l f _ N1.out P1.out H1.out hl R1.out)).mono ?_
      rintro e w1 ⟨rfl, hm, hb⟩
      exact ⟨rfl, hm, HB.out.trans (hb.mono (fun k _ hk => HRB.out k hk))⟩
    · refine (add_err b B l x _ _ H1.out hx).mono ?_
      rintro e w1 ⟨rfl, rfl⟩
      have hq : wFlag f (l, x) = (l, x) := by simp [wFlag, hx]
      rw [hq]
      exact ⟨rfl, H1.out, HB.out⟩
  rintro e w1 ⟨rfl, hm, hb⟩
  have HM := Lib.hid hm; have HB3 := Lib.hid hb; clear hm hb
  go_wp2
  go_ret
  exact ⟨rfl, HM.out, HB3.out⟩
theorem wNum_any (b B : Nat) (l : List UInt8) (x : Int) (n : Int) (w : World) (h : Wr w b B l x) (hl : l.length ≤ 140737488355000) (h1 : n ≤ 9223372036854775807) :
    Calls Try.prog 79 #[.pointer (some ⟨b, 0, none⟩), .int .i64 n] w fun e w' => e = .returned (.pointer (some ⟨b, 0, none⟩)) ∧ Wr w' b B (wNum n (l, x)).1 (wNum n (l, x)).2 ∧ But (WrOnly b B) w w' :=
  (wNum_rw b B l x n w h hl h1).mono fun _ _ ⟨h1, h2, h3⟩ => ⟨h1, h2, h3.mono (fun _ _ hk => h.only hk)⟩
-- left out here


theorem wText_any (b B : Nat) (l : List UInt8) (x : Int) (s : ByteArray) (w : World) (h : Wr w b B l x) (hl : l.length + s.size ≤ 140737488355000) :
    Calls Try.prog 81 #[.pointer (some ⟨b, 0, none⟩), .string s] w fun e w' => e = .returned (.pointer (some ⟨b, 0, none⟩)) ∧ Wr w' b B (wText s (l, x)).1 (wText s (l, x)).2 ∧ But (WrOnly b B) w w' :=
  (wText_rw b B l x s w h hl).mono fun _ _ ⟨h1, h2, h3⟩ => ⟨h1, h2, h3.mono (fun _ _ hk => h.only hk)⟩
theorem wFlag_any (b B : Nat) (l : List UInt8) (x : Int) (f : Bool) (w : World) (h : Wr w b B l x) (hl : l.length ≤ 140737488355000) :
    Calls Try.prog 80 #[.pointer (some ⟨b, 0, none⟩), .bool f] w fun e w' => e = .returned (.pointer (some ⟨b, 0, none⟩)) ∧ Wr w' b B (wFlag f (l, x)).1 (wFlag f (l, x)).2 ∧ But (WrOnly b B) w w' :=
  (wFlag_rw b B l x f w h hl).mono fun _ _ ⟨h1, h2, h3⟩ => ⟨h1, h2, h3.mono (fun _ _ hk => h.only hk)⟩
end Go.Proofs.Ythmljllgfigebaa

/- Package wire: a writer is made, and answers. Conditions: none. -/
namespace Go.Proofs.Ythmljllgfigebaa
open Go.RowKit Go.PlainAid

theorem row_text {w : World} {B : Nat} {v : Value} (l : List UInt8) (h : w.ownsRow B 5 1 v l.length (bs l)) : (convert 44 9 v).run Try.prog w = .ok (.string ⟨l.toArray⟩) w := by
  obtain ⟨ao, c, rfl, _, hv⟩ := row_view h
  cases ao with
  | none =>
    have : l = [] := by
      cases l with
      | nil => rfl
      | cons x r => obtain ⟨g, hg, _⟩ := hv 0 (by simp); cases hg
    subst this
    exact run_convert_bytes_nil w _ _ Try.underlying44 Try.underlying5 _ _ _ Try.underlying9
  | some a =>
    refine run_convert_bytes_back (P := Try.prog) w 44 9 5 a c l Try.underlying44 Try.underlying5 Try.underlying9 (fun j hj => ?_)
    obtain ⟨g, hg, _, hc⟩ := hv j hj
    cases hg
    rw [Addr.add_lit, Nat.zero_add, hc]
    simp [bs, hj]
set_option maxRecDepth 100000 in
set_option maxHeartbeats 1600000 in
theorem new_any (w : World) :
    Calls Try.prog 78 #[] w fun e w' => e = .returned (.pointer (some ⟨w.heap.size, 0, none⟩)) ∧ Wr w' w.heap.size (w.heap.size + 1) [] 0 ∧ Below w.heap.size w w' := by
  go_enter Try.func78, Try.ntmps78
  go_wp2
  go_ret
  refine ⟨rfl, ⟨by simp, by simp, by simp, by simp, by omega, by simp, .slice none 0 0, by simp, rfl, Or.inl ⟨rfl, rfl⟩⟩, (Below.refl _ _).alloc (Nat.le_refl _) _⟩
set_option maxRecDepth 100000 in
set_option maxHeartbeats 1600000 in
theorem wDone_ok (b B : Nat) (l : List UInt8) (w : World) (h : Wr w b B l 0) :
    Calls Try.prog 82 #[.pointer (some ⟨b, 0, none⟩)] w fun e w' => e = .returned (.tuple #[.string ⟨l.toArray⟩, .int .i64 0]) ∧ w = w' := by
  have c0 := h.made; have c2 := h.err
  obtain ⟨v, c1, ho⟩ := h.buf
  have hcv := row_text l ho
  clear h ho
  go_enter Try.func82, Try.ntmps82
  go_wp2
  go_ret2
  exact ⟨rfl, rfl⟩
set_option maxRecDepth 100000 in
set_option maxHeartbeats 1600000 in
theorem wDone_err (b B : Nat) (l : List UInt8) (x : Int) (w : World) (h : Wr w b B l x) (hx : x ≠ 0) :
    Calls Try.prog 82 #[.pointer (some ⟨b, 0, none⟩)] w fun e w' => e = .returned (.tuple #[.string ⟨#[]⟩, .int .i64 x]) ∧ Below w.heap.size w w' := by
  have c0 := h.made; have c2 := h.err
  have hq : (x = 0) = False := by simp [hx]
  have c2' : w.drew.cell? ⟨b, 2, none⟩ = some (.int .i64 x) := c2
  clear h
  go_enter Try.func82, Try.ntmps82
  go_wp2_with fail
  go_quiet (fail)
  go_wp2
  go_ret2
  exact ⟨rfl, below_draws (Below.refl _ _) _⟩
set_option maxRecDepth 100000 in
set_option maxHeartbeats 1600000 in
theorem wDone_unmade (b : Nat) (w : World) (h : w.cell? ⟨b, 0, none⟩ = some (.bool false)) :
    Calls Try.prog 82 #[.pointer (some ⟨b, 0, none⟩)] w fun e w' => e = .returned (.tuple #[.string ⟨#[]⟩, .int .i64 8]) ∧ w = w' := by
  go_enter Try.func82, Try.ntmps82
  go_wp2
  go_ret2
  exact ⟨rfl, rfl⟩
set_option maxRecDepth 100000 in
set_option maxHeartbeats 1600000 in
theorem wDone_nil (w : World) :
    Calls Try.prog 82 #[.pointer none] w fun e w' => e = .returned (.tuple #[.string ⟨#[]⟩, .int .i64 8]) ∧ w = w' := by
  go_enter Try.func82, Try.ntmps82
  go_wp2
  go_ret2
  exact ⟨rfl, rfl⟩
/-- A writer that nobody made does nothing: there is none, or it is a zero one. -/
def NoWr (w : World) (p : Value) : Prop := p = .pointer none ∨ ∃ b, p = .pointer (some ⟨b, 0, none⟩) ∧ w.cell? ⟨b, 0, none⟩ = some (.bool false)
theorem NoWr.below {w w' : World} {p : Value} (h : NoWr w p) (hb : Below w.heap.size w w') : NoWr w' p := by
  rcases h with h | ⟨b, h, hc⟩
  · exact Or.inl h
  · exact Or.inr ⟨b, h, cell_below hb hc⟩
theorem add_no (p st : Value) (w : World) (h : NoWr w p) : Calls Try.prog 109 #[p, st] w fun e w' => e = .returned p ∧ w = w' := by
  rcases h with rfl | ⟨b, rfl, hc⟩
  · exact add_nil st w
  · exact add_unmade b st w hc
theorem wDone_no (p : Value) (w : World) (h : NoWr w p) : Calls Try.prog 82 #[p] w fun e w' => e = .returned (.tuple #[.string ⟨#[]⟩, .int .i64 8]) ∧ w = w' := by
  rcases h with rfl | ⟨b, rfl, hc⟩
  · exact wDone_nil w
  · exact wDone_unmade b w hc
set_option maxRecDepth 100000 in
set_option maxHeartbeats 1600000 in
theorem wNum_no (p : Value) (n : Int) (w : World) (h : NoWr w p) :
    Calls Try.prog 79 #[p, .int .i64 n] w fun e w' => e = .returned p ∧ Below w.heap.size w w' := by
  have hmf : ∀ (fn : Fn) (first cap : Array Value) (w : World), (Instr.makeFunc fn first cap).run Try.prog w = .ok (.func fn first cap) w := fun _ _ _ _ => rfl
  have hb1 := two_boxes w p (.int .i64 n) 146 3
  have H1 := Lib.hid (h.below hb1)
  have p1 : ((w.alloc (.cells #[p] 146)).alloc (.cells #[.int .i64 n] 3)).cell? ⟨w.heap.size, 0, none⟩ = some p := by simp
  have HB := Lib.hid hb1
  have hpp : Hid (∃ o, p = .pointer o) := Lib.hid (by rcases h with rfl | ⟨b, rfl, _⟩ <;> exact ⟨_, rfl⟩)
  obtain ⟨o, rfl⟩ := hpp.out
  clear h hb1
  go_enter Try.func79, Try.ntmps79
  go_wp2_with fail
  refine (add_no _ _ _ H1.out).mono ?_
  rintro e w1 ⟨rfl, rfl⟩
  go_wp2
  go_ret
  exact ⟨rfl, HB.out⟩
-- left out here


















set_option maxRecDepth 100000 in
set_option maxHeartbeats 1600000 in
theorem wText_no (p : Value) (s : ByteArray) (w : World) (h : NoWr w p) :
    Calls Try.prog 81 #[p, .string s] w fun e w' => e = .returned p ∧ Below w.heap.size w w' := by
  have hmf : ∀ (fn : Fn) (first cap : Array Value) (w : World), (Instr.makeFunc fn first cap).run Try.prog w = .ok (.func fn first cap) w := fun _ _ _ _ => rfl
  have hb1 := two_boxes w p (.string s) 146 9
  have H1 := Lib.hid (h.below hb1)
  have p1 : ((w.alloc (.cells #[p] 146)).alloc (.cells #[.string s] 9)).cell? ⟨w.heap.size, 0, none⟩ = some p := by simp
  have HB := Lib.hid hb1
  have hpp : Hid (∃ o, p = .pointer o) := Lib.hid (by rcases h with rfl | ⟨b, rfl, _⟩ <;> exact ⟨_, rfl⟩)
  obtain ⟨o, rfl⟩ := hpp.out
  clear h hb1
  go_enter Try.func81, Try.ntmps81
  go_wp2_with fail
  refine (add_no _ _ _ H1.out).mono ?_
  rintro e w1 ⟨rfl, rfl⟩
  go_wp2
  go_ret
  exact ⟨rfl, HB.out⟩
set_option maxRecDepth 100000 in
set_option maxHeartbeats 1600000 in
theorem wFlag_no (p : Value) (f : Bool) (w : World) (h : NoWr w p) :
    Calls Try.prog 80 #[p, .bool f] w fun e w' => e = .returned p ∧ Below w.heap.size w w' := by
  have hmf : ∀ (fn : Fn) (first cap : Array Value) (w : World), (Instr.makeFunc fn first cap).run Try.prog w = .ok (.func fn first cap) w := fun _ _ _ _ => rfl
  have hb1 := two_boxes w p (.bool f) 146 4
  have H1 := Lib.hid (h.below hb1)
  have p1 : ((w.alloc (.cells #[p] 146)).alloc (.cells #[.bool f] 4)).cell? ⟨w.heap.size, 0, none⟩ = some p := by simp
  have HB := Lib.hid hb1
  have hpp : Hid (∃ o, p = .pointer o) := Lib.hid (by rcases h with rfl | ⟨b, rfl, _⟩ <;> exact ⟨_, rfl⟩)
  obtain ⟨o, rfl⟩ := hpp.out
  clear h hb1
  go_enter Try.func80, Try.ntmps80
  go_wp2_with fail
  refine (add_no _ _ _ H1.out).mono ?_
  rintro e w1 ⟨rfl, rfl⟩
  go_wp2
  go_ret
  exact ⟨rfl, HB.out⟩
/-- A writer that was just made. -/
structure FreshW (w : World) (b : Nat) : Prop where
  made : w.cell? ⟨b, 0, none⟩ = some (.bool true)
  buf : w.cell? ⟨b, 1, none⟩ = some (.slice none 0 0)
  err : w.cell? ⟨b, 2, none⟩ = some (.int .i64 0)
  fr1 : w.frozen? ⟨b, 1, none⟩ = false
  fr2 : w.frozen? ⟨b, 2, none⟩ = false
theorem FreshW.wr {w w' : World} {b B : Nat} (h : FreshW w b) (hb : Below w.heap.size w w') (h1 : b < B) (h2 : B ≤ w'.heap.size) : Wr w' b B [] 0 := by
  have hl := World.block_lt_of_cell? w _ h.made
  exact ⟨cell_below hb h.made, cell_below hb h.err, (hb.frozen (p := ⟨b, 1, none⟩) hl).trans h.fr1, (hb.frozen (p := ⟨b, 2, none⟩) hl).trans h.fr2, h1, h2, _, cell_below hb h.buf, rfl, Or.inl ⟨rfl, rfl⟩⟩
set_option maxRecDepth 100000 in
set_option maxHeartbeats 1600000 in
theorem wnew_any (w : World) :
    Calls Try.prog 78 #[] w fun e w' => e = .returned (.pointer (some ⟨w.heap.size, 0, none⟩)) ∧ FreshW w' w.heap.size ∧ w'.heap.size = w.heap.size + 1 ∧ Below w.heap.size w w' := by
  go_enter Try.func78, Try.ntmps78
  go_wp2
  go_ret
  refine ⟨rfl, ⟨by simp, by simp, by simp, by simp, by simp⟩, by simp, (Below.refl _ _).alloc (Nat.le_refl _) _⟩
end Go.Proofs.Ythmljllgfigebaa
