/- Configurations that are read: what the reading comes to; the worlds on its way. Conditions: none. -/
import Derived.Test.YtghjhkojehlfmaaConfH
import Derived.Test.YtghjhkojehlfmaaWireT
namespace Go.Proofs.Ytghjhkojehlfmaa
open Go.RowKit Go.PlainAid

def ofRows (s : ByteArray) : Nat → Int → Int → List MemT → List MemT × Int × Int
  | 0, a, x, acc => (acc, a, x)
  | k + 1, a, x, acc => ofRows s k (numR s (numR s a x 3).2.1 (numR s a x 3).2.2 1073741824).2.1 (numR s (numR s a x 3).2.1 (numR s a x 3).2.2 1073741824).2.2 (acc ++ [((numR s a x 3).1, (numR s (numR s a x 3).2.1 (numR s a x 3).2.2 1073741824).1)])
/-- All that is read: epoch, members, floor, the place, the error. -/
def ofAll (s : ByteArray) : Int × List MemT × Int × Int × Int :=
  let r0 := numR s 0 0 1073741824
  let r1 := numR s r0.2.1 r0.2.2 4
  let r2 := ofRows s r1.1.toNat r1.2.1 r1.2.2 []
  let r3 := bigR s r2.2.1 r2.2.2
  (r0.1, r2.1, r3.1, r3.2.1, r3.2.2)
def ofErr (s : ByteArray) : Int := if endV s (ofAll s).2.2.2.1.toNat (ofAll s).2.2.2.2 ≠ 0 then endV s (ofAll s).2.2.2.1.toNat (ofAll s).2.2.2.2 else chkC (ofAll s).1 (ofAll s).2.1
/-- What is told of a configuration that was read, with its error. -/
def OfSpec (s : ByteArray) (c : ConfT) : Prop := if ofErr s = 0 then c.ep = (ofAll s).1 ∧ c.ms = (ofAll s).2.1 ∧ c.fl = (ofAll s).2.2.1 else c.ep = 0 ∧ c.ms = [] ∧ c.fl = 0
def OfPost (s : ByteArray) (w : World) (e : Ending) (w' : World) : Prop := ∃ c : ConfT, e = .returned (.tuple #[confV c, .int .i64 (ofErr s)]) ∧ OfSpec s c ∧ ConfOk w' c ∧ Below w.heap.size w w'
theorem numR_bd (s : ByteArray) (a x m : Int) (hm : 0 ≤ m) : 0 ≤ (numR s a x m).1 ∧ (numR s a x m).1 ≤ m := by
  unfold numR
  split
  · simp only; omega
  · simp only
    split
    · rename_i h
      have hr := getR_range s a
      unfold upR at h ⊢
      split at h
      · rename_i h1; exact absurd h h1
      · rename_i h1
        rw [if_neg h1]
        split at h
        · simp at h
        · rename_i h2; rw [if_neg h2]; simp only; omega
    · omega
theorem bigR_bd (s : ByteArray) (a x : Int) : 0 ≤ (bigR s a x).1 ∧ (bigR s a x).1 < 18446744073709551616 := by
  unfold bigR
  split
  · simp
  · simp only
    split
    · rename_i h
      by_cases ha : a < 0
      · have : getR s a = (0, 0, 2) ∨ ((getR s a).2.2 ≠ 0) := Or.inr (by unfold getR; rw [if_pos (by omega)]; simp)
        rcases this with h1 | h1
        · rw [h1] at h; simp at h
        · exact absurd h h1
      · obtain ⟨k, rfl⟩ := Int.eq_ofNat_of_zero_le (show 0 ≤ a by omega)
        have := getR_go s k h
        exact ⟨this.2.2.1, this.2.2.2⟩
    · simp
theorem ofRows_ok (s : ByteArray) : ∀ (k : Nat) (a x : Int) (acc : List MemT), (∀ m ∈ acc, memOk m) → ∀ m ∈ (ofRows s k a x acc).1, memOk m
  | 0, _, _, _, h => h
  | k + 1, a, x, acc, h => by
    unfold ofRows
    refine ofRows_ok s k _ _ _ (fun m hm => ?_)
    rcases List.mem_append.1 hm with hm | hm
    · exact h m hm
    · have h1 := numR_bd s a x 3 (by omega)
      have h2 := numR_bd s (numR s a x 3).2.1 (numR s a x 3).2.2 1073741824 (by omega)
      simp only [List.mem_singleton] at hm
      subst hm
      exact ⟨⟨by simp only; omega, by simp only; omega⟩, by simp only; omega, by simp only; omega⟩
theorem info_mem : (Try.prog.info? 45).map (fun i => (i.zero, i.size, i.bytes)) = some (some (.agg #[.int .i64 0, .int .i64 0]), 2, 16) := by kernel_rfl
theorem two_cell_at {w : World} {n : Nat} (h : w.heap.size = n) (x y : Value) (T : TypeId) : ∀ (j : Nat) u, [x, y][j]? = some u → (w.alloc (.cells #[x, y] T)).cell? ((⟨n, 0, none⟩ : Addr).add j) = some u := by
  subst h
  intro j u hj
  match j, hj with
  | 0, hj => simp at hj; subst hj; rw [Addr.add_lit]; simp
  | 1, hj => simp at hj; subst hj; rw [Addr.add_lit]; simp
/-- A reading under way: the reader R, the configuration's box cb, the result's box rb. -/
structure OC (R rb cb : Nat) (ep : Int) (v : Value) (acc : List MemT) (w wr : World) : Prop where
  c0 : wr.cell? ⟨cb, 0, none⟩ = some (.int .i64 ep)
  c1 : wr.cell? ⟨cb, 1, none⟩ = some v
  c2 : wr.cell? ⟨cb, 2, none⟩ = some (.int .u64 0)
  f0 : wr.frozen? ⟨cb, 0, none⟩ = false
  f1 : wr.frozen? ⟨cb, 1, none⟩ = false
  f2 : wr.frozen? ⟨cb, 2, none⟩ = false
  rbk : wr.heap[rb]? = some (.cells #[.int .i64 0, .slice none 0 0, .int .u64 0] 43)
  own : wr.ownsRow (cb + 1) 45 2 v acc.length (acc.flatMap memE)
  bel : Below w.heap.size w wr
  o1 : w.heap.size ≤ rb
  o2 : rb < R
  o3 : R < cb
  o4 : cb < wr.heap.size
theorem OC.read {R rb cb : Nat} {ep : Int} {v : Value} {acc : List MemT} {w w1 w2 : World} (h : OC R rb cb ep v acc w w1) (hb : But (Own R) w1 w2) : OC R rb cb ep v acc w w2 := by
  have hs : ¬ Own R cb := by unfold Own; have := h.o3; omega
  have ho1 := h.o1; have ho2 := h.o2; have ho3 := h.o3; have ho4 := h.o4
  refine ⟨hb.cell hs h.c0, hb.cell hs h.c1, hb.cell hs h.c2, by rw [hb.frozen ho4 hs]; exact h.f0, by rw [hb.frozen ho4 hs]; exact h.f1, by rw [hb.frozen ho4 hs]; exact h.f2, ?_, row_but h.own hb (fun i hi => by unfold Own; omega), below_but h.bel hb h.bel.size (fun k _ hk => by unfold Own at hk; omega), ho1, ho2, ho3, Nat.lt_of_lt_of_le ho4 hb.size⟩
  rw [hb.block rb (by omega) (by unfold Own; omega)]; exact h.rbk
theorem OC.below {R rb cb : Nat} {ep : Int} {v : Value} {acc : List MemT} {w w1 w2 : World} (h : OC R rb cb ep v acc w w1) (hb : Below w1.heap.size w1 w2) : OC R rb cb ep v acc w w2 := h.read (But.of_below hb)
theorem OC.push {R rb cb : Nat} {ep : Int} {v v' : Value} {acc : List MemT} {m : MemT} {w w1 w2 w3 : World} {s : ByteArray} {a x : Int} (h : OC R rb cb ep v acc w w1) (hre : RE w1 R s a x) (hb : Below w1.heap.size w1 w2) (hg : w2.grownBy w3 v.ownBlock)
    (hown : w3.ownsRow (cb + 1) 45 2 v' (acc.length + 1) (acc.flatMap memE ++ [.int .i64 m.1, .int .i64 m.2])) :
    OC R rb cb ep v' (acc ++ [m]) w (w3.setCell ⟨cb, 1, none⟩ v') ∧ RE (w3.setCell ⟨cb, 1, none⟩ v') R s a x ∧ w3.cell? ⟨cb, 1, none⟩ = some v ∧ w3.frozen? ⟨cb, 1, none⟩ = false := by
  have ho1 := h.o1; have ho2 := h.o2; have ho3 := h.o3; have ho4 := h.o4
  have hB : But (fun k => cb + 1 ≤ k) w1 w3 := (But.of_below hb).trans (But.grown hg (fun k hk => (h.own.lt k hk).1))
  have hs : ¬ (fun k => cb + 1 ≤ k) cb := by simp
  have k0 := hB.cell hs h.c0; have k1 := hB.cell hs h.c1; have k2 := hB.cell hs h.c2
  have hz := hB.size
  refine ⟨⟨?_, World.cell?_setCell_same _ _ _ k1, ?_, ?_, ?_, ?_, ?_, ?_, ?_, ho1, ho2, ho3, ?_⟩, ?_, k1, by rw [hB.frozen ho4 hs]; exact h.f1⟩
  · rw [World.cell?_setCell_other _ _ _ _ (by simp)]; exact k0
  · rw [World.cell?_setCell_other _ _ _ _ (by simp)]; exact k2
  · rw [World.frozen?_setCell, hB.frozen ho4 hs]; exact h.f0
  · rw [World.frozen?_setCell, hB.frozen ho4 hs]; exact h.f1
  · rw [World.frozen?_setCell, hB.frozen ho4 hs]; exact h.f2
  · rw [Below.heap_setCell _ _ _ _ (show rb ≠ cb by omega), hB.block rb (by omega) (by simp; omega)]; exact h.rbk
  · refine ownsRow_setCell_below ?_ (show cb < cb + 1 by omega) _
    rw [List.length_append, List.flatMap_append]
    simpa [memE] using hown
  · exact below_but (below_but h.bel hB h.bel.size (fun k _ (hk : cb + 1 ≤ k) => by omega)) (But.setCell (S := fun k => k = cb) (But.refl _ w3) (p := ⟨cb, 1, none⟩) (fun _ => rfl) v') (by have := h.bel.size; omega) (fun k _ (hk : k = cb) => by omega)
  · rw [World.size_setCell]; omega
  · exact (hre.but hB (show ¬ cb + 1 ≤ R by omega)).but (But.setCell (S := fun k => k = cb) (But.refl _ w3) (p := ⟨cb, 1, none⟩) (fun _ => rfl) v') (show ¬ R = cb by omega)
/-- All is read: the configuration's box is whole. -/
structure OD (rb cb : Nat) (c : ConfT) (w wr : World) : Prop where
  c0 : wr.cell? ⟨cb, 0, none⟩ = some (.int .i64 c.ep)
  c1 : wr.cell? ⟨cb, 1, none⟩ = some c.mv
  c2 : wr.cell? ⟨cb, 2, none⟩ = some (.int .u64 c.fl)
  rbk : wr.heap[rb]? = some (.cells #[.int .i64 0, .slice none 0 0, .int .u64 0] 43)
  own : wr.ownsRow (cb + 1) 45 2 c.mv c.ms.length (c.ms.flatMap memE)
  bel : Below w.heap.size w wr
  o1 : w.heap.size ≤ rb
  o2 : rb < cb
  o4 : cb < wr.heap.size
theorem OC.done {R rb cb : Nat} {ep : Int} {v : Value} {acc : List MemT} {w w1 : World} {s : ByteArray} {a x : Int} (h : OC R rb cb ep v acc w w1) (hre : RE w1 R s a x) (fl : Int) :
    OD rb cb ⟨ep, v, acc, fl⟩ w (w1.setCell ⟨cb, 2, none⟩ (.int .u64 fl)) ∧ RE (w1.setCell ⟨cb, 2, none⟩ (.int .u64 fl)) R s a x := by
  have ho1 := h.o1; have ho2 := h.o2; have ho3 := h.o3; have ho4 := h.o4
  have hB : But (fun k => k = cb) w1 (w1.setCell ⟨cb, 2, none⟩ (.int .u64 fl)) := (But.refl _ w1).store 2 _
  refine ⟨⟨?_, ?_, World.cell?_setCell_same _ _ _ h.c2, ?_, ownsRow_setCell_below h.own (show cb < cb + 1 by omega) _, below_but h.bel hB h.bel.size (fun k _ (hk : k = cb) => by omega), ho1, by omega, by rw [World.size_setCell]; exact ho4⟩, hre.but hB (show ¬ R = cb by omega)⟩
  · rw [World.cell?_setCell_other _ _ _ _ (by simp)]; exact h.c0
  · rw [World.cell?_setCell_other _ _ _ _ (by simp)]; exact h.c1
  · rw [Below.heap_setCell _ _ _ _ (show rb ≠ cb by omega)]; exact h.rbk
theorem OD.below {rb cb : Nat} {c : ConfT} {w w1 w2 : World} (h : OD rb cb c w w1) (hb : Below w1.heap.size w1 w2) : OD rb cb c w w2 := by
  have ho1 := h.o1; have ho2 := h.o2; have ho4 := h.o4
  exact ⟨cell_below hb h.c0, cell_below hb h.c1, cell_below hb h.c2, by rw [hb.block rb (by omega)]; exact h.rbk, row_below h.own hb, h.bel.trans (hb.mono h.bel.size), ho1, ho2, Nat.lt_of_lt_of_le ho4 hb.size⟩
theorem OD.conf {rb cb : Nat} {c : ConfT} {w w1 : World} (h : OD rb cb c w w1) (hm : ∀ m ∈ c.ms, memOk m) (he : 0 ≤ c.ep ∧ c.ep ≤ 1073741824) (hf : 0 ≤ c.fl ∧ c.fl < 18446744073709551616) : ConfOk w1 c :=
  ⟨SliceOf.own h.own (fun _ _ => rfl), hm, by omega, by omega, hf.1, hf.2⟩
/-- The result's box, to be written. -/
theorem OD.box {rb cb : Nat} {c : ConfT} {w w1 : World} (h : OD rb cb c w w1) : (w1.cell? ⟨rb, 0, none⟩ = some (.int .i64 0) ∧ w1.cell? ⟨rb, 1, none⟩ = some (.slice none 0 0) ∧ w1.cell? ⟨rb, 2, none⟩ = some (.int .u64 0)) ∧ w1.frozen? ⟨rb, 0, none⟩ = false ∧ w1.frozen? ⟨rb, 1, none⟩ = false ∧ w1.frozen? ⟨rb, 2, none⟩ = false := by
  have hb := h.rbk
  have hz : ∀ i, w1.frozen? ⟨rb, i, none⟩ = false := by
    intro i
    unfold World.frozen?
    rw [hb]
    simp
  exact ⟨⟨cell_of_row w1 rb 0 _ _ _ hb, cell_of_row w1 rb 1 _ _ _ hb, cell_of_row w1 rb 2 _ _ _ hb⟩, hz 0, hz 1, hz 2⟩
/-- Behind the result's writing. -/
theorem OD.res {rb cb : Nat} {c : ConfT} {w w1 : World} (h : OD rb cb c w w1) (x y z : Value) (hm : ∀ m ∈ c.ms, memOk m) (he : 0 ≤ c.ep ∧ c.ep ≤ 1073741824) (hf : 0 ≤ c.fl ∧ c.fl < 18446744073709551616) :
    ConfOk (((w1.setCell ⟨rb, 0, none⟩ x).setCell ⟨rb, 1, none⟩ y).setCell ⟨rb, 2, none⟩ z) c ∧ Below w.heap.size w (((w1.setCell ⟨rb, 0, none⟩ x).setCell ⟨rb, 1, none⟩ y).setCell ⟨rb, 2, none⟩ z) := by
  have ho1 := h.o1; have ho2 := h.o2
  have hr : rb < cb + 1 := by omega
  refine ⟨⟨SliceOf.own (ownsRow_setCell_below (ownsRow_setCell_below (ownsRow_setCell_below h.own hr _) hr _) hr _) (fun _ _ => rfl), hm, by omega, by omega, hf.1, hf.2⟩, ?_⟩
  have hB : But (fun k => k = rb) w1 (((w1.setCell ⟨rb, 0, none⟩ x).setCell ⟨rb, 1, none⟩ y).setCell ⟨rb, 2, none⟩ z) := (((But.refl _ w1).store 0 x).store 1 y).store 2 z
  exact below_but h.bel hB h.bel.size (fun k _ (hk : k = rb) => by omega)
theorem zero_ok (w : World) : ConfOk w ⟨0, .slice none 0 0, [], 0⟩ := ⟨SliceOf.nil _ _ _, by simp, by simp, by simp, by simp, by simp⟩
theorem OC.push0 {R rb cb : Nat} {ep : Int} {v v' : Value} {acc : List MemT} {m : MemT} {w w1 w2 w3 : World} (h : OC R rb cb ep v acc w w1) (hb : Below w1.heap.size w1 w2) (hg : w2.grownBy w3 v.ownBlock)
    (hown : w3.ownsRow (cb + 1) 45 2 v' (acc.length + 1) (acc.flatMap memE ++ [.int .i64 m.1, .int .i64 m.2])) :
    OC R rb cb ep v' (acc ++ [m]) w (w3.setCell ⟨cb, 1, none⟩ v') ∧ But (fun k => cb ≤ k) w1 (w3.setCell ⟨cb, 1, none⟩ v') ∧ w3.cell? ⟨cb, 1, none⟩ = some v ∧ w3.frozen? ⟨cb, 1, none⟩ = false := by
  have ho1 := h.o1; have ho2 := h.o2; have ho3 := h.o3; have ho4 := h.o4
  have hB : But (fun k => cb + 1 ≤ k) w1 w3 := (But.of_below hb).trans (But.grown hg (fun k hk => (h.own.lt k hk).1))
  have hs : ¬ (fun k => cb + 1 ≤ k) cb := by simp
  have k0 := hB.cell hs h.c0; have k1 := hB.cell hs h.c1; have k2 := hB.cell hs h.c2
  have hz := hB.size
  have hS : But (fun k => k = cb) w3 (w3.setCell ⟨cb, 1, none⟩ v') := (But.refl _ w3).store 1 _
  refine ⟨⟨?_, World.cell?_setCell_same _ _ _ k1, ?_, ?_, ?_, ?_, ?_, ?_, ?_, ho1, ho2, ho3, ?_⟩, (hB.mono (fun k _ (hk : cb + 1 ≤ k) => show cb ≤ k by omega)).trans (hS.mono (fun k _ (hk : k = cb) => show cb ≤ k by omega)), k1, by rw [hB.frozen ho4 hs]; exact h.f1⟩
  · rw [World.cell?_setCell_other _ _ _ _ (by simp)]; exact k0
  · rw [World.cell?_setCell_other _ _ _ _ (by simp)]; exact k2
  · rw [World.frozen?_setCell, hB.frozen ho4 hs]; exact h.f0
  · rw [World.frozen?_setCell, hB.frozen ho4 hs]; exact h.f1
  · rw [World.frozen?_setCell, hB.frozen ho4 hs]; exact h.f2
  · rw [Below.heap_setCell _ _ _ _ (show rb ≠ cb by omega), hB.block rb (by omega) (by simp; omega)]; exact h.rbk
  · refine ownsRow_setCell_below ?_ (show cb < cb + 1 by omega) _
    rw [List.length_append, List.flatMap_append]
    simpa [memE] using hown
  · exact below_but (below_but h.bel hB h.bel.size (fun k _ (hk : cb + 1 ≤ k) => by omega)) hS (by have := h.bel.size; omega) (fun k _ (hk : k = cb) => by omega)
  · rw [World.size_setCell]; omega
theorem OC.setEp {R rb cb : Nat} {ep : Int} {v : Value} {acc : List MemT} {w w1 : World} (h : OC R rb cb ep v acc w w1) (e : Int) : OC R rb cb e v acc w (w1.setCell ⟨cb, 0, none⟩ (.int .i64 e)) := by
  have ho1 := h.o1; have ho2 := h.o2; have ho3 := h.o3; have ho4 := h.o4
  have hS : But (fun k => k = cb) w1 (w1.setCell ⟨cb, 0, none⟩ (.int .i64 e)) := (But.refl _ w1).store 0 _
  refine ⟨World.cell?_setCell_same _ _ _ h.c0, ?_, ?_, by rw [World.frozen?_setCell]; exact h.f0, by rw [World.frozen?_setCell]; exact h.f1, by rw [World.frozen?_setCell]; exact h.f2, ?_, ownsRow_setCell_below h.own (show cb < cb + 1 by omega) _, below_but h.bel hS h.bel.size (fun k _ (hk : k = cb) => by omega), ho1, ho2, ho3, by rw [World.size_setCell]; exact ho4⟩
  · rw [World.cell?_setCell_other _ _ _ _ (by simp)]; exact h.c1
  · rw [World.cell?_setCell_other _ _ _ _ (by simp)]; exact h.c2
  · rw [Below.heap_setCell _ _ _ _ (show rb ≠ cb by omega)]; exact h.rbk
theorem OC.doneX {R rb cb : Nat} {ep : Int} {v : Value} {acc : List MemT} {w w1 : World} {s : ByteArray} {a x : Int} (h : OC R rb cb ep v acc w w1) (hre : XRE w1 R s a x) (fl : Int) :
    OD rb cb ⟨ep, v, acc, fl⟩ w (w1.setCell ⟨cb, 2, none⟩ (.int .u64 fl)) ∧ XRE (w1.setCell ⟨cb, 2, none⟩ (.int .u64 fl)) R s a x := by
  have ho1 := h.o1; have ho2 := h.o2; have ho3 := h.o3; have ho4 := h.o4
  have hB : But (fun k => k = cb) w1 (w1.setCell ⟨cb, 2, none⟩ (.int .u64 fl)) := (But.refl _ w1).store 2 _
  refine ⟨⟨?_, ?_, World.cell?_setCell_same _ _ _ h.c2, ?_, ownsRow_setCell_below h.own (show cb < cb + 1 by omega) _, below_but h.bel hB h.bel.size (fun k _ (hk : k = cb) => by omega), ho1, by omega, by rw [World.size_setCell]; exact ho4⟩, hre.but hB (show ¬ R = cb by omega)⟩
  · rw [World.cell?_setCell_other _ _ _ _ (by simp)]; exact h.c0
  · rw [World.cell?_setCell_other _ _ _ _ (by simp)]; exact h.c1
  · rw [Below.heap_setCell _ _ _ _ (show rb ≠ cb by omega)]; exact h.rbk
/-- Three boxes are laid: the result's, the reader's, the configuration's. -/
theorem OC.lay (w : World) (s : ByteArray) : OC (w.heap.size + 1) w.heap.size (w.heap.size + 1 + 1) 0 (.slice none 0 0) [] w (((w.alloc (.cells #[.int .i64 0, .slice none 0 0, .int .u64 0] 43)).alloc (.cells #[.string s, .int .i64 0, .int .i64 0] 110)).alloc (.cells #[.int .i64 0, .slice none 0 0, .int .u64 0] 43)) ∧
    XRE (((w.alloc (.cells #[.int .i64 0, .slice none 0 0, .int .u64 0] 43)).alloc (.cells #[.string s, .int .i64 0, .int .i64 0] 110)).alloc (.cells #[.int .i64 0, .slice none 0 0, .int .u64 0] 43)) (w.heap.size + 1) s 0 0 := by
  obtain ⟨w0, hw0⟩ : ∃ w0, w0 = w.alloc (.cells #[.int .i64 0, .slice none 0 0, .int .u64 0] 43) := ⟨_, rfl⟩
  have hz0 : w0.heap.size = w.heap.size + 1 := by rw [hw0]; simp
  have hb0 : Below w.heap.size w w0 := by rw [hw0]; exact (Below.refl _ _).alloc (Nat.le_refl _) _
  have hr0 : w0.heap[w.heap.size]? = some (.cells #[.int .i64 0, .slice none 0 0, .int .u64 0] 43) := by rw [hw0]; exact heap_alloc_new w _
  rw [← hw0]
  clear hw0
  obtain ⟨w1, hw1⟩ : ∃ w1, w1 = w0.alloc (.cells #[.string s, .int .i64 0, .int .i64 0] 110) := ⟨_, rfl⟩
  have hz1 : w1.heap.size = w.heap.size + 1 + 1 := by rw [hw1]; simp; omega
  have hb1 : Below w0.heap.size w0 w1 := by rw [hw1]; exact (Below.refl _ _).alloc (Nat.le_refl _) _
  have hx1 : XRd w1 (w.heap.size + 1) s 0 0 := by rw [hw1, ← hz0]; exact ⟨by simp, by simp, by simp, by simp, by simp⟩
  rw [← hw1]
  clear hw1
  obtain ⟨w2, hw2⟩ : ∃ w2, w2 = w1.alloc (.cells #[.int .i64 0, .slice none 0 0, .int .u64 0] 43) := ⟨_, rfl⟩
  have hb2 : Below w1.heap.size w1 w2 := by rw [hw2]; exact (Below.refl _ _).alloc (Nat.le_refl _) _
  have hz2 : w2.heap.size = w.heap.size + 1 + 1 + 1 := by rw [hw2]; simp; omega
  have hr2 : w2.heap[w.heap.size + 1 + 1]? = some (.cells #[.int .i64 0, .slice none 0 0, .int .u64 0] 43) := by rw [hw2, ← hz1]; exact heap_alloc_new w1 _
  rw [← hw2]
  have hzf : ∀ i, w2.frozen? ⟨w.heap.size + 1 + 1, i, none⟩ = false := by
    intro i
    unfold World.frozen?
    rw [hr2]
    simp
  refine ⟨⟨cell_of_row w2 _ 0 _ _ _ hr2, cell_of_row w2 _ 1 _ _ _ hr2, cell_of_row w2 _ 2 _ _ _ hr2, hzf 0, hzf 1, hzf 2, ?_, ⟨by simp, Or.inl ⟨rfl, rfl⟩⟩, (hb0.trans (hb1.mono hb0.size)).trans (hb2.mono (by omega)), by omega, by omega, by omega, by omega⟩, XRE.good (hx1.below hb2)⟩
  rw [hb2.block _ (by omega), hb1.block _ (by omega)]; exact hr0
end Go.Proofs.Ytghjhkojehlfmaa
