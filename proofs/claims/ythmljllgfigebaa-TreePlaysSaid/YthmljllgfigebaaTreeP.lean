/- Package tree and catenaref15: how deep a tree is; Least; acts. Conditions: none. -/
import Derived.Test.YthmljllgfigebaaTreeO
import Derived.Test.YthmljllgfigebaaOpen
import Derived.Test.YthmljllgfigebaaEntry
import Derived.Test.YthmljllgfigebaaBytes
namespace Go.Proofs.Ythmljllgfigebaa
open Go.RowKit Go.Shelf
set_option linter.unusedVariables false

/-- The fewest keys of a tree of depth n; of depth n + 1. -/
def lstP : Nat → Nat × Nat
  | 0 => (0, 1)
  | n + 1 => ((lstP n).2, (lstP n).1 + (lstP n).2 + 1)
def lst (n : Nat) : Nat := (lstP n).1
theorem lst_s (n : Nat) : (lstP n).2 = lst (n + 1) := rfl
theorem lst_2 (n : Nat) : lst (n + 2) = lst n + lst (n + 1) + 1 := rfl
theorem lst_up (n : Nat) : lst n ≤ lst (n + 1) := by
  cases n with
  | zero => decide
  | succ n => rw [lst_2]; omega
theorem lst_mono {a b : Nat} (h : a ≤ b) : lst a ≤ lst b := by
  induction b with
  | zero => rw [Nat.le_zero.1 h]; exact Nat.le_refl _
  | succ b ih =>
    rcases Nat.lt_or_ge a (b + 1) with q | q
    · exact Nat.le_trans (ih (by omega)) (lst_up b)
    · rw [show a = b + 1 by omega]; exact Nat.le_refl _
theorem lst_41 : lst 41 ≤ 1000000000 := by decide
theorem lst_14 : 900 ≤ lst 14 := by decide
theorem lst_go {n a b : Nat} (h : ∀ m, n = m + 1 → lst (m + 1) ≤ a ∧ lst m ≤ b) : lst (n + 1) ≤ 1 + a + b := by
  cases n with
  | zero => show 1 ≤ _; omega
  | succ n => rw [lst_2]; have := h n rfl; omega
theorem avl_lst : ∀ t : Tm, Avl t → lst (dp t).toNat ≤ sz t ∧ (dp t = 0 ↔ sz t = 0)
  | .nil, _ => ⟨by decide, by simp [dp, sz]⟩
  | .nd b l k v d r, h => by
    obtain ⟨h1, h2, h3, h4, h5⟩ := h
    have i1 := avl_lst l h1; have i2 := avl_lst r h2
    have b1 := Avl.bd h1; have b2 := Avl.bd h2
    have m := mx_bd3 (a := dp l) (b := dp r)
    show lst d.toNat ≤ 1 + sz l + sz r ∧ (d = 0 ↔ 1 + sz l + sz r = 0)
    refine ⟨?_, by omega⟩
    obtain ⟨n, hn⟩ : ∃ n : Nat, (n : Int) = mx (dp l) (dp r) := ⟨(mx (dp l) (dp r)).toNat, by omega⟩
    have hd : d.toNat = n + 1 := by omega
    rw [hd]
    rcases m.2.2 with e | e
    · refine lst_go fun q hq => ?_
      have e1 : (dp l).toNat = q + 1 := by omega
      have e2 : q ≤ (dp r).toNat := by omega
      rw [e1] at i1
      exact ⟨i1.1, Nat.le_trans (lst_mono e2) i2.1⟩
    · rw [show 1 + sz l + sz r = 1 + sz r + sz l by omega]
      refine lst_go fun q hq => ?_
      have e1 : (dp r).toNat = q + 1 := by omega
      have e2 : q ≤ (dp l).toNat := by omega
      rw [e1] at i2
      exact ⟨i2.1, Nat.le_trans (lst_mono e2) i1.1⟩
theorem TrO.flat {S : Nat → Prop} {w : World} {tb : Nat} {L : List Kv} {d : Int} (h : TrO S w tb L d) (hL : L.length ≤ 800) : 0 ≤ d ∧ d ≤ 40 ∧ ((lst d.toNat : Nat) : Int) ≤ L.length ∧ (d = 0 ↔ (L.length : Int) = 0) := by
  obtain ⟨t, h1, h2, h3, h4, h5, h6, rfl, rfl, h9⟩ := h
  rw [il_len] at hL ⊢
  have q := avl_lst t h5; have b := Avl.bd h5
  refine ⟨b.1, ?_, by omega, by omega⟩
  rcases Int.lt_or_le 40 (dp t) with k | k
  · have := lst_mono (show 14 ≤ (dp t).toNat by omega); have := lst_14; omega
  · exact k
set_option maxRecDepth 100000 in
set_option maxHeartbeats 2000000 in
theorem least15_any (d : Int) (w : World) (h0 : 0 ≤ d) (h1 : d ≤ 40) : Calls Try.prog 30 #[.int .i64 d] w fun e w' => e = .returned (.int .i64 (lst d.toNat)) ∧ w = w' := by
  obtain ⟨n, rfl⟩ : ∃ n : Nat, (n : Int) = d := ⟨d.toNat, by omega⟩
  go_enter Try.func30, Try.ntmps30
  go_wp2
  go_loopg [3, 4, 5] (n + 1) (fun g s3 s4 s5 wr => ∃ i : Nat, s5 = .int .i64 i ∧ s3 = .int .i64 (lst i) ∧ s4 = .int .i64 (lst (i + 1)) ∧ wr = w ∧ i ≤ n ∧ n + 1 ≤ i + g)
  case atStart => exact ⟨0, rfl, rfl, rfl, rfl, by omega, by omega⟩
  case round =>
    obtain ⟨i, rfl, rfl, rfl, rfl, hi, hg⟩ := hrel
    by_cases hlt : i < n
    · have hd : decide ((i : Int) < (n : Int)) = true := decide_eq_true (by omega)
      have hd2 : decide ((i : Int) < 40) = true := decide_eq_true (by omega)
      have m1 := lst_mono (show i ≤ 41 by omega); have m2 := lst_mono (show i + 1 ≤ 41 by omega); have m3 := lst_mono (show i + 2 ≤ 41 by omega); have m4 := lst_41
      have e1 := lst_2 i
      obtain ⟨x, hx⟩ : ∃ x : Nat, x = lst i := ⟨_, rfl⟩
      obtain ⟨y, hy⟩ : ∃ y : Nat, y = lst (i + 1) := ⟨_, rfl⟩
      rw [← hx] at m1 e1; rw [← hy] at m2 e1
      have b1 : x ≤ 1000000000 := by omega
      have b2 : y ≤ 1000000000 := by omega
      have HX := Lib.hid hx; have HY := Lib.hid hy; have E1 := Lib.hid e1
      rw [← hx, ← hy]
      clear hx hy e1 m1 m2 m3 m4
      go_wp2
      go_roundg (gk - 1)
      case rel => exact ⟨i + 1, by go_num, by rw [HY.out], by rw [E1.out]; go_num, rfl, by omega, by omega⟩
      case measure => omega
    · have hd : decide ((i : Int) < (n : Int)) = false := decide_eq_false (by omega)
      obtain rfl : i = n := by omega
      go_wp2
      go_ret
      exact ⟨rfl, rfl⟩
theorem Dr.grown {W X : World} (h : Dr W X) : W.grownBy X none := by
  induction h with
  | o => exact ⟨rfl, rfl, rfl, Nat.le_refl _, fun _ _ _ => rfl⟩
  | s _ ih => exact ⟨ih.os, ih.tape, ih.output, ih.size, ih.block⟩
structure TActT where
  c : Int
  k : ByteArray
  t : ByteArray
  v : Int
instance : Inhabited TActT := ⟨⟨0, ⟨#[]⟩, ⟨#[]⟩, 0⟩⟩
def tactE (a : TActT) : List Value := [.int .i64 a.c, .string a.k, .string a.t, .int .i64 a.v]
def TActOk (a : TActT) : Prop := (Lit.int .i64 a.c).wf = true ∧ (Lit.int .i64 a.v).wf = true
section
variable {H : Type} {enc : TypeId × Value → H} {w : World} {base : Nat} {spare : Nat → Bool} {held : Bool}
open Go.ChangeShapes Go.WideShapes Go.Deep
set_option maxRecDepth 10000 in
theorem elem_tact (n : Nat) (cs : List Value) (x : DataW H × List MemPlace) (h : DataW.trod enc Try.prog w base spare held n 30 cs = some x) : ∃ a, cs = tactE a ∧ TActOk a := by
  obtain ⟨xs, m, _, _, hl, hxl, hf⟩ := DataW.trod_struct Try.underlying30 h
  have hl4 : cs.length = 4 := hl
  have hx2 : xs.length = 4 := hxl
  clear hl hxl
  match cs, hl4, xs, hx2 with
  | [c0, c1, c2, c3], _, [y0, y1, y2, y3], _ =>
    have h0' : DataW.trod enc Try.prog w base spare held m 3 [c0] = some y0 := hf 0 _ rfl
    have h1' : DataW.trod enc Try.prog w base spare held m 9 [c1] = some y1 := hf 1 _ rfl
    have h2' : DataW.trod enc Try.prog w base spare held m 9 [c2] = some y2 := hf 2 _ rfl
    have h3' : DataW.trod enc Try.prog w base spare held m 3 [c3] = some y3 := hf 3 _ rfl
    obtain ⟨a, e0, _, w0⟩ := DataW.trod_int Try.underlying3 h0'
    obtain ⟨b, e1, _, _⟩ := DataW.trod_string Try.underlying9 h1'
    obtain ⟨c, e2, _, _⟩ := DataW.trod_string Try.underlying9 h2'
    obtain ⟨d, e3, _, w3⟩ := DataW.trod_int Try.underlying3 h3'
    simp only [List.cons.injEq, and_true] at e0 e1 e2 e3
    subst e0 e1 e2 e3
    exact ⟨⟨a, b, c, d⟩, rfl, w0, w3⟩
theorem open_tacts {fuel : Nat} {cs : List Value} {x : DataW H × List MemPlace} (h : DataW.trod enc Try.prog w base spare held fuel 22 cs = some x) :
    ∃ (l : List TActT) (v : Value), cs = [v] ∧ SliceOf tactE 4 w v l ∧ ∀ p ∈ l, TActOk p :=
  open_rows tactE 4 TActOk Try.underlying22 (by kernel_rfl) (by omega) elem_tact h
end
theorem tactAt {w : World} {ao : Option Addr} {n cap : Nat} {l : List TActT} (h : SliceOf tactE 4 w (.slice ao n cap) l) (i : Nat) (hi : i < l.length) : ∃ b off, ao = some ⟨b, off, none⟩ ∧ w.cell? ⟨b, off + i * 4, none⟩ = some (.int .i64 l[i].c) ∧ w.cell? ⟨b, off + i * 4 + 1, none⟩ = some (.string l[i].k) ∧ w.cell? ⟨b, off + i * 4 + 2, none⟩ = some (.string l[i].t) ∧ w.cell? ⟨b, off + i * 4 + 3, none⟩ = some (.int .i64 l[i].v) := by
  obtain ⟨a', c', e1, _, _, _, hx⟩ := h
  obtain ⟨b, off, e2, hr⟩ := hx i hi
  simp only [Value.slice.injEq] at e1
  exact ⟨b, off, by rw [e1.1, e2], by simpa using hr 0 _ rfl, hr 1 _ rfl, hr 2 _ rfl, hr 3 _ rfl⟩
end Go.Proofs.Ythmljllgfigebaa
