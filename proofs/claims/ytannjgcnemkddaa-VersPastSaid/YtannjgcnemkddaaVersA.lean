/- Package vers, plainly: rising versions, the place of the last one not above a time. Conditions: none. -/
import Derived.Test.YtannjgcnemkddaaOpen
namespace Go.Proofs.Ytannjgcnemkddaa
open Go.RowKit Go.ChangeShapes Go.WideShapes Go.Deep

/-- A version: timestamp, value, is it gone. -/
abbrev CellT := Int × ByteArray × Bool
def cellE (c : CellT) : List Value := [.int .u64 c.1, .string c.2.1, .bool c.2.2]
def cellOk (c : CellT) : Prop := (Lit.int .u64 c.1).wf = true
section
variable {H : Type} {enc : TypeId × Value → H} {w : World} {base : Nat} {spare : Nat → Bool} {held : Bool}
set_option maxRecDepth 10000 in
theorem elem_cell (n : Nat) (cs : List Value) (x : DataW H × List MemPlace) (h : DataW.trod enc Try.prog w base spare held n 38 cs = some x) : ∃ p, cs = cellE p ∧ cellOk p := by
  obtain ⟨hl, m, hf⟩ := trod_fields Try.underlying38 (by kernel_rfl) (by kernel_rfl) h
  have hl3 : cs.length = 3 := hl
  clear hl
  match cs, hl3 with
  | [c0, c1, c2], _ =>
    obtain ⟨_, y0, e0, h0⟩ := hf 0 _ rfl
    obtain ⟨_, y1, e1, h1⟩ := hf 1 _ rfl
    obtain ⟨_, y2, e2, h2⟩ := hf 2 _ rfl
    cases e0; cases e1; cases e2
    obtain ⟨a, e0, _, w0⟩ := DataW.trod_int Try.underlying36 h0
    obtain ⟨b, e1, _, _⟩ := DataW.trod_string Try.underlying9 h1
    obtain ⟨c, e2, _⟩ := DataW.trod_bool Try.underlying4 h2
    simp only [List.cons.injEq, and_true] at e0 e1 e2
    subst e0 e1 e2
    exact ⟨(a, b, c), rfl, w0⟩
theorem open_cells {fuel : Nat} {cs : List Value} {x : DataW H × List MemPlace} (h : DataW.trod enc Try.prog w base spare held fuel 35 cs = some x) :
    ∃ (l : List CellT) (v : Value), cs = [v] ∧ SliceOf cellE 3 w v l ∧ ∀ p ∈ l, cellOk p :=
  open_rows cellE 3 cellOk Try.underlying35 (by kernel_rfl) (by omega) elem_cell h
end

/-- The timestamp at a place. -/
def ts (l : List CellT) (i : Nat) : Int := (l.getD i (0, ByteArray.empty, false)).1
theorem ts_get {l : List CellT} {i : Nat} (h : i < l.length) : ts l i = l[i].1 := by
  simp [ts, List.getD, List.getElem?_eq_getElem h]
/-- Do the timestamps rise, the first one above a? -/
def rises : Int → List CellT → Bool
  | _, [] => true
  | a, c :: r => decide (a < c.1) && rises c.1 r
/-- The last timestamp, a without. -/
def lastTs : Int → List CellT → Int
  | a, [] => a
  | _, c :: r => lastTs c.1 r
theorem rises_snoc : ∀ (a : Int) (l : List CellT) (c : CellT), rises a (l ++ [c]) = (rises a l && decide (lastTs a l < c.1))
  | a, [], c => by show (decide (a < c.1) && true) = (true && decide (a < c.1)); rw [Bool.and_true, Bool.true_and]
  | a, d :: r, c => by
    show (decide (a < d.1) && rises d.1 (r ++ [c])) = ((decide (a < d.1) && rises d.1 r) && decide (lastTs d.1 r < c.1))
    rw [rises_snoc d.1 r c, Bool.and_assoc]
theorem lastTs_snoc : ∀ (a : Int) (l : List CellT) (c : CellT), lastTs a (l ++ [c]) = c.1
  | _, [], _ => rfl
  | _, d :: r, c => lastTs_snoc d.1 r c
theorem lastTs_ts (a : Int) (l : List CellT) (h : 0 < l.length) : lastTs a l = ts l (l.length - 1) := by
  obtain ⟨r, c, rfl⟩ : ∃ r c, l = r ++ [c] := ⟨_, _, (List.dropLast_concat_getLast (by intro e; subst e; simp at h)).symm⟩
  rw [lastTs_snoc, ts_get (by simp)]; simp
theorem rises_lt : ∀ (a : Int) (l : List CellT), rises a l = true → ∀ i j, i < j → j < l.length → a < ts l i ∧ ts l i < ts l j
  | a, [], _, i, j, _, hj => absurd hj (by simp)
  | a, c :: r, h, i, j, hij, hj => by
    simp only [rises, Bool.and_eq_true, decide_eq_true_eq] at h
    obtain ⟨h1, h2⟩ := h
    have key : ∀ k, k < r.length → c.1 < ts r k := fun k hk => by
      cases k with
      | zero => cases r with
        | nil => simp at hk
        | cons d r => simp only [rises, Bool.and_eq_true, decide_eq_true_eq] at h2; exact h2.1
      | succ k => exact Int.lt_trans (rises_lt c.1 r h2 0 (k + 1) (by omega) hk).1 (rises_lt c.1 r h2 0 (k + 1) (by omega) hk).2
    obtain ⟨j, rfl⟩ : ∃ k, j = k + 1 := ⟨j - 1, by omega⟩
    have hj' : j < r.length := by simpa using hj
    cases i with
    | zero => exact ⟨h1, key j hj'⟩
    | succ i =>
      have := rises_lt c.1 r h2 i j (by omega) hj'
      exact ⟨Int.lt_trans h1 this.1, this.2⟩

/-- The last place below k whose timestamp is not above t; -1 without. -/
def down (l : List CellT) (t : Int) : Nat → Int
  | 0 => -1
  | k + 1 => if ts l k ≤ t then k else down l t k
def lastI (l : List CellT) (t : Int) : Int := down l t l.length
theorem down_at {l : List CellT} {t : Int} (k : Nat) : ∀ (n : Nat), k ≤ n → (∀ j, j < k → ts l j ≤ t) → (∀ j, k ≤ j → j < n → t < ts l j) → down l t n = (k : Int) - 1
  | 0, h, _, _ => by obtain rfl : k = 0 := by omega
                     rfl
  | n + 1, h, h1, h2 => by
    by_cases hk : k ≤ n
    · have := h2 n hk (by omega)
      rw [down, if_neg (by omega)]
      exact down_at k n hk h1 (fun j hj hjn => h2 j hj (by omega))
    · obtain rfl : k = n + 1 := by omega
      have := h1 n (by omega)
      rw [down, if_pos this]; omega
theorem down_bd (l : List CellT) (t : Int) : ∀ n, -1 ≤ down l t n ∧ down l t n < n ∧ (0 ≤ down l t n → ts l (down l t n).toNat ≤ t)
  | 0 => by simp [down]
  | n + 1 => by
    rw [down]
    split
    · refine ⟨by omega, by omega, fun _ => ?_⟩
      rw [Int.toNat_natCast]; assumption
    · have := down_bd l t n
      exact ⟨this.1, by omega, this.2.2⟩
end Go.Proofs.Ytannjgcnemkddaa
