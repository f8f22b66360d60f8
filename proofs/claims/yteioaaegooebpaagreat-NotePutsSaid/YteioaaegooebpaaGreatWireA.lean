/- Package wire: a writer, what it gathers. Conditions: none. -/
import Derived.Test.YteioaaegooebpaaGreatVnA
import Derived.Test.YteioaaegooebpaaGreatAppStr
namespace Go.Proofs.YteioaaegooebpaaGreat
open Go.RowKit Go.PlainAid

theorem putL_le (n : Int) : (putL n).length ≤ 9 := by
  have := wd_bd n
  unfold putL
  split
  · simp
  · rw [List.length_cons, be_len]; omega
/-- A writer that was made: block b; its bytes lie from block B on. -/
structure Wr (w : World) (b B : Nat) (l : List UInt8) (e : Int) : Prop where
  made : w.cell? ⟨b, 0, none⟩ = some (.bool true)
  err : w.cell? ⟨b, 2, none⟩ = some (.int .i64 e)
  fr1 : w.frozen? ⟨b, 1, none⟩ = false
  fr2 : w.frozen? ⟨b, 2, none⟩ = false
  lt : b < B
  le : B ≤ w.heap.size
  buf : ∃ v, w.cell? ⟨b, 1, none⟩ = some v ∧ w.ownsRow B 5 1 v l.length (bs l)

theorem bs_app (l k : List UInt8) : bs (l ++ k) = bs l ++ bs k := by simp [bs]
theorem bs_str (s : ByteArray) : Lib.strCells s = bs s.data.toList := rfl
/-- A row is as it was where its own block is. -/
theorem row_but {S : Nat → Prop} {B : Nat} {e : TypeId} {k : Nat} {v : Value} {n : Nat} {xs : List Value} {w w' : World} (h : w.ownsRow B e k v n xs) (hb : But S w w') (hs : ∀ i, B ≤ i → ¬ S i) : w'.ownsRow B e k v n xs := by
  obtain ⟨h1, h2⟩ := h
  refine ⟨h1, ?_⟩
  rcases h2 with h2 | ⟨g, cap, cur, hv, hg, hh, r⟩
  · exact Or.inl h2
  · exact Or.inr ⟨g, cap, cur, hv, hg, by rw [hb.block g (Array.getElem?_eq_some_iff.1 hh).1 (hs g hg)]; exact hh, r⟩
theorem Wr.but {S : Nat → Prop} {w w' : World} {b B : Nat} {l : List UInt8} {e : Int} (h : Wr w b B l e) (hb : But S w w') (hs : ¬ S b) (hB : ∀ i, B ≤ i → ¬ S i) : Wr w' b B l e := by
  have hl : b < w.heap.size := World.block_lt_of_cell? w _ h.made
  obtain ⟨v, hc, ho⟩ := h.buf
  exact ⟨hb.cell hs h.made, hb.cell hs h.err, by rw [hb.frozen hl hs]; exact h.fr1, by rw [hb.frozen hl hs]; exact h.fr2, h.lt, Nat.le_trans h.le hb.size, v, hb.cell hs hc, row_but ho hb hB⟩
theorem Wr.below {w w' : World} {b B : Nat} {l : List UInt8} {e : Int} (h : Wr w b B l e) (hb : Below w.heap.size w w') : Wr w' b B l e := h.but (But.of_below (S := fun _ => False) hb) id (fun _ _ => id)
theorem Wr.setErr {w : World} {b B : Nat} {l : List UInt8} {e : Int} (h : Wr w b B l e) (e' : Int) : Wr (w.setCell ⟨b, 2, none⟩ (.int .i64 e')) b B l e' := by
  obtain ⟨v, hc, ho⟩ := h.buf
  refine ⟨?_, World.cell?_setCell_same _ _ _ h.err, by rw [World.frozen?_setCell]; exact h.fr1, by rw [World.frozen?_setCell]; exact h.fr2, h.lt, by rw [World.size_setCell]; exact h.le, v, ?_, ownsRow_setCell_below ho h.lt _⟩
  · rw [World.cell?_setCell_other _ _ _ _ (by simp)]; exact h.made
  · rw [World.cell?_setCell_other _ _ _ _ (by simp)]; exact hc
theorem fr_grown {w w2 w3 : World} {b : Nat} {row : Option Nat} (hb : Below w.heap.size w w2) (hg : w2.grownBy w3 row) (hl : b < w.heap.size) (hne : some b ≠ row) (hf : w.frozen? ⟨b, 1, none⟩ = false) : w3.frozen? ⟨b, 1, none⟩ = false := by
  rw [World.frozen?_of_block (w := w2) (hg.block b (Nat.lt_of_lt_of_le hl hb.size) hne), hb.frozen hl]; exact hf
/-- What a writer's calls turn. -/
def WrOnly (b B k : Nat) : Prop := k = b ∨ B ≤ k

/-- The block in which the bytes lie. -/
def rowOf (w : World) (b : Nat) : Option Nat := match w.cell? ⟨b, 1, none⟩ with | some v => v.ownBlock | none => none
/-- What one call turns: the writer, its bytes. -/
def Rw (w : World) (b k : Nat) : Prop := k = b ∨ rowOf w b = some k
theorem rowOf_cell {w : World} {b : Nat} {v : Value} (h : w.cell? ⟨b, 1, none⟩ = some v) : rowOf w b = v.ownBlock := by unfold rowOf; rw [h]
theorem Wr.row {w : World} {b B : Nat} {l : List UInt8} {e : Int} (h : Wr w b B l e) {k : Nat} (hk : rowOf w b = some k) : B ≤ k ∧ k < w.heap.size := by
  obtain ⟨v, hc, ho⟩ := h.buf
  rw [rowOf_cell hc] at hk
  exact ho.lt k hk
theorem Wr.only {w : World} {b B : Nat} {l : List UInt8} {e : Int} (h : Wr w b B l e) {k : Nat} (hk : Rw w b k) : WrOnly b B k := by
  rcases hk with hk | hk
  · exact Or.inl hk
  · exact Or.inr (h.row hk).1
theorem Wr.rw_below {w w' : World} {b B : Nat} {l : List UInt8} {e : Int} (h : Wr w b B l e) (hb : Below w.heap.size w w') : rowOf w' b = rowOf w b := by
  obtain ⟨v, hc, _⟩ := h.buf
  rw [rowOf_cell hc, rowOf_cell (cell_below hb hc)]
theorem Wr.rw_back {w w' : World} {b B : Nat} {l : List UInt8} {e : Int} (h : Wr w b B l e) (hb : Below w.heap.size w w') {k : Nat} (hk : Rw w' b k) : Rw w b k := by
  unfold Rw at hk ⊢; rwa [h.rw_below hb] at hk
theorem But.grown {S : Nat → Prop} {w w' : World} {row : Option Nat} (hg : w.grownBy w' row) (hs : ∀ k, row = some k → S k) : But S w w' :=
  ⟨hg.os, hg.tape, hg.output, hg.size, fun k hk hn => hg.block k hk (fun e => hn (hs k e.symm))⟩
/-- The bytes stay in their block, or go into a new one. -/
def Keep (w w' : World) (b : Nat) : Prop := ∀ k, rowOf w' b = some k → rowOf w b = some k ∨ w.heap.size ≤ k
theorem Wr.grow {w w2 w3 : World} {b B : Nat} {l : List UInt8} {e : Int} {row : Option Nat} {ao : Option Addr} {c : Nat} {s : ByteArray} (h : Wr w b B l e) (hb : Below w.heap.size w w2) (hg : w2.grownBy w3 row) (hne : some b ≠ row) (hrow : row = rowOf w b)
    (hown : w3.ownsRow B 5 1 (.slice ao (l.length + s.size) c) (l.length + s.size) (bs l ++ Lib.strCells s)) (hfr : (Value.slice ao (l.length + s.size) c).ownBlock = row ∨ ∀ k, (Value.slice ao (l.length + s.size) c).ownBlock = some k → w2.heap.size ≤ k) :
    Wr (w3.setCell ⟨b, 1, none⟩ (.slice ao (l.length + s.size) c)) b B (l ++ s.data.toList) e ∧ But (Rw w b) w (w3.setCell ⟨b, 1, none⟩ (.slice ao (l.length + s.size) c)) ∧ Keep w (w3.setCell ⟨b, 1, none⟩ (.slice ao (l.length + s.size) c)) b := by
  have hl : b < w.heap.size := Nat.lt_of_lt_of_le h.lt h.le
  have hn : (l ++ s.data.toList).length = l.length + s.size := by rw [List.length_append]; simp
  have hB3 : But (Rw w b) w w3 := (But.of_below hb).trans (But.grown hg (fun k hk => Or.inr (by rw [← hrow]; exact hk)))
  have kb : ∀ j v, w.cell? ⟨b, j, none⟩ = some v → w3.cell? ⟨b, j, none⟩ = some v := fun j v hc => hg.cell (a := ⟨b, j, none⟩) (cell_below hb hc) hne
  have fb : ∀ j, w3.frozen? ⟨b, j, none⟩ = w.frozen? ⟨b, j, none⟩ := fun j => by
    rw [World.frozen?_of_block (w := w2) (hg.block b (Nat.lt_of_lt_of_le hl hb.size) hne), hb.frozen hl]
  obtain ⟨v, hc, _⟩ := h.buf
  refine ⟨⟨?_, ?_, by rw [World.frozen?_setCell, fb]; exact h.fr1, by rw [World.frozen?_setCell, fb]; exact h.fr2, h.lt, by rw [World.size_setCell]; exact Nat.le_trans h.le hB3.size, _, World.cell?_setCell_same _ _ _ (kb 1 _ hc), ?_⟩, hB3.setCell (p := ⟨b, 1, none⟩) (fun _ => Or.inl rfl) _, fun k hk => ?_⟩
  · rw [World.cell?_setCell_other _ _ _ _ (by simp)]; exact kb 0 _ h.made
  · rw [World.cell?_setCell_other _ _ _ _ (by simp)]; exact kb 2 _ h.err
  · refine ownsRow_setCell_below ?_ h.lt _
    rw [hn, bs_app, ← bs_str]; exact hown
  · rw [rowOf_cell (World.cell?_setCell_same _ _ _ (kb 1 _ hc))] at hk
    rcases hfr with hf | hf
    · rw [hf, hrow] at hk; exact Or.inl hk
    · exact Or.inr (Nat.le_trans hb.size (hf k hk))

set_option maxRecDepth 100000 in
set_option maxHeartbeats 1600000 in
theorem big_any (b B : Nat) (l : List UInt8) (e : Int) (n : Int) (w : World) (h : Wr w b B l e) (hl : l.length ≤ 140737488355000) (h0 : 0 ≤ n) (h1 : n < 18446744073709551616) :
    Calls Tryz.prog 93 #[.pointer (some ⟨b, 0, none⟩), .int .u64 n] w fun x w' => x = .returned (.tuple #[]) ∧ Wr w' b B (l ++ putL n) e ∧ But (Rw w b) w w' ∧ Keep w w' b := by
  obtain ⟨i0, hi, hz0, hz1, hz2⟩ := info_parts info_u8
  have H := Lib.hid h
  obtain ⟨v, hc, ho⟩ := h.buf
  obtain ⟨ao, cp, rfl, _⟩ := row_view ho
  have k1 : w.drew.cell? ⟨b, 1, none⟩ = some (.slice ao l.length cp) := hc
  have HC := Lib.hid hc; have HO := Lib.hid ho
  have hbs : b < w.heap.size := Nat.lt_of_lt_of_le h.lt h.le
  have hlt := h.lt
  have hpl : (putL n).length ≤ 9 := putL_le n
  have hp1 : (⟨(putL n).toArray⟩ : ByteArray).size = (putL n).length := rfl
  have hA : Hid (l.length + (⟨(putL n).toArray⟩ : ByteArray).size ≤ maxLen) := Lib.hid (by unfold maxLen; omega)
  have hBy : Hid (l.length + (⟨(putL n).toArray⟩ : ByteArray).size ≤ 140737488355328) := Lib.hid (by omega)
  have hne : Hid (some b ≠ (Value.slice ao l.length cp).ownBlock) := Lib.hid (fun e => by
    cases ao with
    | none => cases e
    | some a =>
      have h9 := (ho.lt a.block rfl).1
      have : b = a.block := by simpa [Value.ownBlock] using e
      omega)
  have hrow : Hid ((Value.slice ao l.length cp).ownBlock = rowOf w b) := Lib.hid (rowOf_cell hc).symm
  clear h hc ho hp1
  go_enter Tryz.func93, Tryz.ntmps93
  go_wp2_with fail
  go_region_law (first | (go_simp; go_at_call 142; refine Calls.mono (put_any n _ h0 h1) ?_; rintro e w2 ⟨rfl, hb2⟩; have hb3 : Below w.heap.size w w2 := Below.trans ((Below.refl _ _).drew) hb2; have c1 := cell_below hb3 HC.out; have HO2 := Lib.hid (row_below HO.out hb3); have HB2 := Lib.hid hb3; clear hb2 hb3) | (refine step_append_str rfl (.tmp 8) (.tmp 10) 136 9 rfl B 5 i0 Tryz.underlying136 Tryz.underlying9 hi hz0 hz1 hz2 _ l.length _ rfl HO2.out ⟨(putL n).toArray⟩ rfl hA.out hBy.out (Nat.le_trans H.out.le HB2.out.size) ?_; intro ao3 c3 w3 hown3 hgr3 hfr3; have HFr3 := Lib.hid hfr3; have c4 := hgr3.cell c1 hne.out; have z4 : w3.frozen? ⟨b, 1, none⟩ = false := fr_grown HB2.out hgr3 hbs hne.out H.out.fr1; have HO3 := Lib.hid hown3; have HG3 := Lib.hid hgr3; clear hown3 hgr3 hfr3))
  all_goals
    have HF := Lib.hid (H.out.grow HB2.out HG3.out hne.out hrow.out HO3.out HFr3.out)
    go_wp2
    go_end0
    exact ⟨rfl, HF.out.1, HF.out.2.1, HF.out.2.2⟩
end Go.Proofs.YteioaaegooebpaaGreat
