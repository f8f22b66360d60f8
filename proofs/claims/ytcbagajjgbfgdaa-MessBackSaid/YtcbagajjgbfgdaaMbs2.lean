/- Put together: ObjMbq, OpsAMbq, OpsBMbq, OpsCMbq, ObjBMbq, PexEMbq, ConfWMbq, OpenMbq, EntBMbq, MapMbq, MapCMbq, ItemAMbq, PexS0Mbq, PexSMbq, MessAMbq. Conditions: as each says. -/
import Derived.Test.YtcbagajjgbfgdaaMbs1
import Derived.PlainAid
import Derived.Laws.StructEq
import Derived.ProofKit
import Derived.Deep.Slices
import Derived.Deep.Fields
import Derived.SliceStrings
import Derived.SizedLaws
import Derived.StringKeys
import Derived.Maps.RangeRun
import Derived.Laws.RangeString
import Derived.Laws.Strings
import Derived.MapKept
/- Writers and readers that a walk has made: what they hold, what a call on them turns. Conditions: none. -/
namespace Go.Proofs.Ytcbagajjgbfgdaa
open Go.RowKit Go.PlainAid
set_option linter.unusedVariables false

section
variable {w x w0 : World} {b N : Nat} {l l' : List UInt8} {m m' : Nat} {e : Int}
theorem but_grown (h : But (Own b) w x) : w.grownBy x (some b) := ⟨h.os, h.tape, h.output, h.size, fun k hk hne => h.block k hk (fun e => hne (by rw [show k = b from e]))⟩
theorem grown_but {row : Option Nat} (h : w.grownBy x row) : But (fun k => row = some k) w x := ⟨h.os, h.tape, h.output, h.size, fun k hk hn => h.block k hk (fun e => hn e.symm)⟩
theorem Wr.lt' {B : Nat} (h : Wr w b B l e) : b < w.heap.size := World.block_lt_of_cell? w _ h.made
theorem Wr.keep {S : Nat → Prop} {B : Nat} (h : Wr w b B l e) (hb : But S w x) (hs : ¬ S b) (hr : ∀ k, rowOf w b = some k → ¬ S k) : Wr x b B l e := by
  have hl := h.lt'
  obtain ⟨v, hc, h1, h2⟩ := h.buf
  have hr' : ∀ k, v.ownBlock = some k → ¬ S k := fun k hk => hr k (by rw [rowOf_cell hc]; exact hk)
  refine ⟨hb.cell hs h.made, hb.cell hs h.err, by rw [hb.frozen hl hs]; exact h.fr1, by rw [hb.frozen hl hs]; exact h.fr2, h.lt, Nat.le_trans h.le hb.size, v, hb.cell hs hc, h1, ?_⟩
  rcases h2 with h2 | ⟨g, cap, cur, hv, hg, hh, r⟩
  · exact Or.inl h2
  · exact Or.inr ⟨g, cap, cur, hv, hg, by rw [hb.block g (Array.getElem?_eq_some_iff.1 hh).1 (hr' g (by rw [hv]; rfl))]; exact hh, r⟩
theorem Wr.row_is {B : Nat} (h : Wr w b B l e) {k : Nat} (hk : rowOf w b = some k) : ∃ cs, w.heap[k]? = some (.cells cs 5 (0, 0)) := by
  obtain ⟨v, hc, h1, h2⟩ := h.buf
  rw [rowOf_cell hc] at hk
  rcases h2 with ⟨hv, _⟩ | ⟨g, cap, cur, hv, hg, hh, r⟩
  · rw [hv] at hk; cases hk
  · rw [hv] at hk
    have : g = k := by simpa [Value.ownBlock] using hk
    subst this; exact ⟨cur, hh⟩
theorem Wr.ne_blk {B : Nat} {T : TypeId} {cs : Array Value} (h : Wr w b B l e) (hk : Blk w N T cs) (hT : T ≠ 5) : rowOf w b ≠ some N := fun e1 => by
  obtain ⟨c, h1⟩ := h.row_is e1
  unfold Blk at hk
  rw [hk] at h1
  injection h1 with h1; injection h1 with h2 h3
  exact hT h3
theorem Wr.ne_row {B B' k sz : Nat} {T : TypeId} {v : Value} {xs : List Value} (h : Wr w b B l e) (hr : w.ownsRow B' T sz v k xs) (hT : T ≠ 5) : ∀ g, v.ownBlock = some g → rowOf w b ≠ some g := fun g hg e1 => by
  obtain ⟨c, h1⟩ := h.row_is e1
  rcases hr.2 with ⟨hv, _⟩ | ⟨g', cap, cur, hv, _, hh, _⟩
  · rw [hv] at hg; cases hg
  · rw [hv] at hg
    have : g' = g := by simpa [Value.ownBlock] using hg
    subst this
    rw [hh] at h1
    injection h1 with h1; injection h1 with h2 h3
    exact hT h3
/-- The program's writer, block b: l, of at most m bytes, and no error. -/
structure OW (b : Nat) (l : List UInt8) (m : Nat) (w : World) : Prop where
  wr : Wr w b (b + 1) l 0
  len : l.length ≤ m
theorem OW.lt (h : OW b l m w) : b < w.heap.size := h.wr.lt'
theorem OW.below (h : OW b l m w) (hb : Below w.heap.size w x) : OW b l m x := ⟨h.wr.below hb, h.len⟩
theorem OW.new (h : OW b l m w) (hg : w.grownBy x none) : OW b l m x := h.below (grown_below hg)
theorem OW.eq (h : OW b l m w) (he : l = l') (hm : m ≤ m') : OW b l' m' w := by subst he; exact ⟨h.wr, Nat.le_trans h.len hm⟩
theorem OW.at {T : TypeId} {cs : Array Value} (h : OW b l m w) (hk : Blk w N T cs) (hT : T ≠ 5) (hne : b ≠ N) (hg : w.grownBy x (some N)) : OW b l m x :=
  ⟨h.wr.keep (grown_but hg) (fun e1 => hne (Option.some.inj e1).symm) (fun k hk' e1 => h.wr.ne_blk hk hT (by rw [hk']; exact e1.symm)), h.len⟩
theorem OW.row {B' k sz : Nat} {T : TypeId} {v : Value} {xs : List Value} (h : OW b l m w) (hr : w.ownsRow B' T sz v k xs) (hT : T ≠ 5) (hne : v.ownBlock ≠ some b) (hg : w.grownBy x v.ownBlock) : OW b l m x :=
  ⟨h.wr.keep (grown_but hg) hne (fun k hk' e1 => h.wr.ne_row hr hT k e1 hk'), h.len⟩
theorem blk_wr {T : TypeId} {cs : Array Value} (hk : Blk w N T cs) (h : OW b l m w) (hT : T ≠ 5) (hne : N ≠ b) (hb : But (Rw w b) w x) : Blk x N T cs := by
  have hl := hk.lt
  unfold Blk at hk ⊢
  rw [hb.block N hl ?_]
  · exact hk
  · rintro (h1 | h1)
    · exact hne h1
    · exact h.wr.ne_blk hk hT h1
theorem hb_wr (h0 : Below w0.heap.size w0 w) (h : OW b l m w) (hlt : w0.heap.size ≤ b) (hb : But (Rw w b) w x) : Below w0.heap.size w0 x :=
  below_but h0 hb h0.size (fun k _ hk => by
    rcases h.wr.only hk with h1 | h1 <;> omega)
theorem sum_le {k q : Nat} (h : l.length ≤ m) (hk : l'.length ≤ k) (hq : q = m + k) : (l ++ l').length ≤ q := by rw [List.length_append]; omega
theorem ow_new (w : World) : Calls Try.prog 12 #[] w fun e w' => ∃ b, e = .returned (.pointer (some ⟨b, 0, none⟩)) ∧ b = w.heap.size ∧ OW b [] 0 w' ∧ Below w.heap.size w w' :=
  (wnew_any w).mono (by
    rintro e x ⟨rfl, hf, hz, hb⟩
    exact ⟨_, rfl, rfl, ⟨hf.wr (Below.refl _ _) (Nat.lt_succ_self _) (by omega), by simp⟩, hb⟩)
theorem ow_num (b : Nat) (l : List UInt8) (m : Nat) (n : Int) (w : World) (h : OW b l m w) (hm : m ≤ 140737488355000) (h0 : 0 ≤ n) (h1 : n ≤ 9223372036854775807) :
    Calls Try.prog 13 #[.pointer (some ⟨b, 0, none⟩), .int .i64 n] w fun e w' => e = .returned (.pointer (some ⟨b, 0, none⟩)) ∧ OW b (l ++ putL n) (m + 9) w' ∧ But (Rw w b) w w' :=
  (wNum_rw b (b + 1) l 0 n w h.wr (Nat.le_trans h.len hm) h1).mono (by
    rintro e x ⟨rfl, hw, hb⟩
    have e1 : wNum n (l, 0) = (l ++ putL n, 0) := by unfold wNum; rw [if_neg (by simp), if_neg (by omega)]
    rw [e1] at hw
    exact ⟨rfl, ⟨hw, sum_le h.len (putL_le n) rfl⟩, hb⟩)
theorem ow_big (b : Nat) (l : List UInt8) (m : Nat) (n : Int) (w : World) (h : OW b l m w) (hm : m ≤ 140737488355000) (h0 : 0 ≤ n) (h1 : n < 18446744073709551616) :
    Calls Try.prog 35 #[.pointer (some ⟨b, 0, none⟩), .int .u64 n] w fun e w' => e = .returned (.pointer (some ⟨b, 0, none⟩)) ∧ OW b (l ++ putL n) (m + 9) w' ∧ But (Rw w b) w w' :=
  (wBig_rw b (b + 1) l 0 n w h.wr (Nat.le_trans h.len hm) h0 h1).mono (by
    rintro e x ⟨rfl, hw, hb⟩
    have e1 : wBig n (l, 0) = (l ++ putL n, 0) := by unfold wBig; rw [if_neg (by simp)]
    rw [e1] at hw
    exact ⟨rfl, ⟨hw, sum_le h.len (putL_le n) rfl⟩, hb⟩)
theorem ow_text (b : Nat) (l : List UInt8) (m : Nat) (s : ByteArray) (w : World) (h : OW b l m w) (hm : m + s.size ≤ 140737488355000) :
    Calls Try.prog 37 #[.pointer (some ⟨b, 0, none⟩), .string s] w fun e w' => e = .returned (.pointer (some ⟨b, 0, none⟩)) ∧ OW b (l ++ (putL (s.size : Int) ++ s.data.toList)) (m + (9 + s.size)) w' ∧ But (Rw w b) w w' :=
  (wText_rw b (b + 1) l 0 s w h.wr (by have := h.len; omega)).mono (by
    rintro e x ⟨rfl, hw, hb⟩
    have e1 : wText s (l, 0) = (l ++ (putL (s.size : Int) ++ s.data.toList), 0) := by unfold wText; rw [if_neg (by simp), List.append_assoc]
    rw [e1] at hw
    exact ⟨rfl, ⟨hw, sum_le h.len (sum_le (putL_le _) (Nat.le_refl _) rfl) (by simp)⟩, hb⟩)
theorem ow_flag (b : Nat) (l : List UInt8) (m : Nat) (f : Bool) (w : World) (h : OW b l m w) (hm : m ≤ 140737488355000) :
    Calls Try.prog 34 #[.pointer (some ⟨b, 0, none⟩), .bool f] w fun e w' => e = .returned (.pointer (some ⟨b, 0, none⟩)) ∧ OW b (l ++ [flagB f]) (m + 1) w' ∧ But (Rw w b) w w' :=
  (wFlag_rw b (b + 1) l 0 f w h.wr (Nat.le_trans h.len hm)).mono (by
    rintro e x ⟨rfl, hw, hb⟩
    have e1 : wFlag f (l, 0) = (l ++ [flagB f], 0) := by unfold wFlag; rw [if_neg (by simp)]
    rw [e1] at hw
    exact ⟨rfl, ⟨hw, sum_le h.len (k := 1) (by simp) rfl⟩, hb⟩)
theorem ow_done (b : Nat) (l : List UInt8) (m : Nat) (w : World) (h : OW b l m w) :
    Calls Try.prog 16 #[.pointer (some ⟨b, 0, none⟩)] w fun e w' => e = .returned (.tuple #[.string ⟨l.toArray⟩, .int .i64 0]) ∧ Below w.heap.size w w' :=
  (wDone_ok b (b + 1) l w h.wr).mono (by rintro e x ⟨rfl, rfl⟩; exact ⟨rfl, Below.refl _ _⟩)
/-- The document's own writer. -/
structure OX (b : Nat) (l : List UInt8) (m : Nat) (w : World) : Prop where
  wr : RWr w b l 0
  len : l.length ≤ m
theorem OX.lt (h : OX b l m w) : b < w.heap.size := h.wr.lt
theorem OX.below (h : OX b l m w) (hb : Below w.heap.size w x) : OX b l m x := ⟨h.wr.below hb, h.len⟩
theorem OX.new (h : OX b l m w) (hg : w.grownBy x none) : OX b l m x := h.below (grown_below hg)
theorem OX.eq (h : OX b l m w) (he : l = l') (hm : m ≤ m') : OX b l' m' w := by subst he; exact ⟨h.wr, Nat.le_trans h.len hm⟩
theorem OX.at (h : OX b l m w) (hne : b ≠ N) (hg : w.grownBy x (some N)) : OX b l m x := ⟨h.wr.but (grown_but hg) (fun e1 => hne (Option.some.inj e1).symm), h.len⟩
theorem OX.row {v : Value} (h : OX b l m w) (hne : v.ownBlock ≠ some b) (hg : w.grownBy x v.ownBlock) : OX b l m x := ⟨h.wr.but (grown_but hg) hne, h.len⟩
end

section
variable {w x : World} {b N : Nat} {s : ByteArray} {a e : Int}
/-- The program's reader: it stands at a (if it has no error), its error is e. -/
structure OR (b : Nat) (s : ByteArray) (a e : Int) (w : World) : Prop where
  re : RE w b s a e
  pos : e = 0 → 0 ≤ a ∧ a ≤ s.size
theorem OR.lt (h : OR b s a e w) : b < w.heap.size := h.re.lt
theorem OR.below (h : OR b s a e w) (hb : Below w.heap.size w x) : OR b s a e x := ⟨h.re.below hb, h.pos⟩
theorem OR.new (h : OR b s a e w) (hg : w.grownBy x none) : OR b s a e x := h.below (grown_below hg)
theorem OR.at (h : OR b s a e w) (hne : b ≠ N) (hg : w.grownBy x (some N)) : OR b s a e x := ⟨h.re.but (grown_but hg) (fun e1 => hne (Option.some.inj e1).symm), h.pos⟩
theorem OR.row {v : Value} (h : OR b s a e w) (hne : v.ownBlock ≠ some b) (hg : w.grownBy x v.ownBlock) : OR b s a e x := ⟨h.re.but (grown_but hg) hne, h.pos⟩
theorem OR.nat (h : OR b s a e w) : RE w b s (a.toNat : Int) e ∧ (e = 0 → a.toNat ≤ s.size) := by
  by_cases he : e = 0
  · have := h.pos he
    have e1 : (a.toNat : Int) = a := by omega
    rw [e1]; exact ⟨h.re, fun _ => by omega⟩
  · exact ⟨h.re.weak he, fun h1 => absurd h1 he⟩
theorem or_open (s : ByteArray) (w : World) : Calls Try.prog 17 #[.string s] w fun e w' => ∃ b, e = .returned (.pointer (some ⟨b, 0, none⟩)) ∧ b = w.heap.size ∧ OR b s 0 0 w' ∧ Below w.heap.size w w' :=
  (open_any s w).mono (by rintro e x ⟨rfl, hr, hb⟩; exact ⟨_, rfl, rfl, ⟨RE.good hr, fun _ => by omega⟩, hb⟩)
theorem upR_le {s : ByteArray} {a m x : Int} (hm : 0 ≤ m) : 0 ≤ (upR s a m x).1 ∧ (upR s a m x).1 ≤ m := by
  have := getR_range s a
  unfold upR
  split
  · exact ⟨Int.le_refl _, hm⟩
  split
  · exact ⟨Int.le_refl _, hm⟩
  · dsimp only; omega
theorem numR_le {s : ByteArray} {a x m : Int} (hm : 0 ≤ m) : 0 ≤ (numR s a x m).1 ∧ (numR s a x m).1 ≤ m := by
  have := upR_le (s := s) (a := a) (x := 5) hm
  unfold numR
  split
  · exact ⟨Int.le_refl _, hm⟩
  · dsimp only; split
    · exact this
    · exact ⟨Int.le_refl _, hm⟩
theorem textR_le {s : ByteArray} {a x m : Int} (hm : 0 ≤ m) : ((textR s a x m).1.size : Int) ≤ m := by
  have := upR_le (s := s) (a := a) (x := 3) hm
  unfold textR
  split
  · exact hm
  split
  · exact hm
  split
  · exact hm
  · dsimp only
    rw [ByteArray.size_extract]; omega
theorem or_num (b : Nat) (s : ByteArray) (a e m : Int) (w : World) (h : OR b s a e w) (hs : s.size ≤ 9223372036854775807) (h0 : 0 ≤ m) (hm : m ≤ 9223372036854775807) :
    Calls Try.prog 18 #[.pointer (some ⟨b, 0, none⟩), .int .i64 m] w fun e1 w' => ∃ n a' e', e1 = .returned (.int .i64 n) ∧ numR s a e m = (n, a', e') ∧ 0 ≤ n ∧ n ≤ m ∧ OR b s a' e' w' ∧ w.grownBy w' (some b) :=
  (rNum_re b s a e m w h.re hs hm).mono (by
    rintro e1 x ⟨rfl, hw, hb⟩
    exact ⟨_, _, _, rfl, rfl, (numR_le h0).1, (numR_le h0).2, ⟨hw, numR_at⟩, but_grown hb⟩)
theorem or_text (b : Nat) (s : ByteArray) (a e m : Int) (w : World) (h : OR b s a e w) (hs : s.size ≤ 9223372036854775807) (h0 : 0 ≤ m) (hm : m ≤ 9223372036854775807) :
    Calls Try.prog 48 #[.pointer (some ⟨b, 0, none⟩), .int .i64 m] w fun e1 w' => ∃ t a' e', e1 = .returned (.string t) ∧ textR s a e m = (t, a', e') ∧ (t.size : Int) ≤ m ∧ OR b s a' e' w' ∧ w.grownBy w' (some b) :=
  (rText_re b s a e m w h.re hs hm).mono (by
    rintro e1 x ⟨rfl, hw, hb⟩
    exact ⟨_, _, _, rfl, rfl, textR_le h0, ⟨hw, textR_at⟩, but_grown hb⟩)
theorem or_flag (b : Nat) (s : ByteArray) (a e : Int) (w : World) (h : OR b s a e w) (hs : s.size ≤ 9223372036854775807) :
    Calls Try.prog 46 #[.pointer (some ⟨b, 0, none⟩)] w fun e1 w' => ∃ f a' e', e1 = .returned (.bool f) ∧ flagR s a.toNat e = (f, a', e') ∧ OR b s a' e' w' ∧ w.grownBy w' (some b) :=
  (rFlag_re b s a.toNat e w h.nat.1 hs h.nat.2).mono (by
    rintro e1 x ⟨rfl, hw, hb⟩
    exact ⟨_, _, _, rfl, rfl, ⟨hw, flagR_at h.nat.2⟩, but_grown hb⟩)
theorem or_end (b : Nat) (s : ByteArray) (a e : Int) (w : World) (h : OR b s a e w) (hs : s.size ≤ 9223372036854775807) :
    Calls Try.prog 22 #[.pointer (some ⟨b, 0, none⟩)] w fun e1 w' => ∃ r, e1 = .returned (.int .i64 r) ∧ endV s a.toNat e = r ∧ Below w.heap.size w w' :=
  (end_re b s a.toNat e w h.nat.1 hs h.nat.2).mono (by
    rintro e1 x ⟨rfl, hb⟩
    exact ⟨_, rfl, rfl, hb⟩)
/-- The document's own reader. -/
structure OXR (b : Nat) (s : ByteArray) (a e : Int) (w : World) : Prop where
  re : XRE w b s a e
  pos : e = 0 → 0 ≤ a ∧ a ≤ s.size
theorem XRE.lt (h : XRE w b s a e) : b < w.heap.size := World.block_lt_of_cell? w _ h.cell
theorem OXR.lt (h : OXR b s a e w) : b < w.heap.size := h.re.lt
theorem OXR.below (h : OXR b s a e w) (hb : Below w.heap.size w x) : OXR b s a e x := ⟨h.re.below hb, h.pos⟩
theorem OXR.new (h : OXR b s a e w) (hg : w.grownBy x none) : OXR b s a e x := h.below (grown_below hg)
theorem OXR.at (h : OXR b s a e w) (hne : b ≠ N) (hg : w.grownBy x (some N)) : OXR b s a e x := ⟨h.re.but (grown_but hg) (fun e1 => hne (Option.some.inj e1).symm), h.pos⟩
theorem OXR.row {v : Value} (h : OXR b s a e w) (hne : v.ownBlock ≠ some b) (hg : w.grownBy x v.ownBlock) : OXR b s a e x := ⟨h.re.but (grown_but hg) hne, h.pos⟩
theorem OXR.nat (h : OXR b s a e w) : XRE w b s (a.toNat : Int) e ∧ (e = 0 → a.toNat ≤ s.size) := by
  by_cases he : e = 0
  · have := h.pos he
    have e1 : (a.toNat : Int) = a := by omega
    rw [e1]; exact ⟨h.re, fun _ => by omega⟩
  · exact ⟨h.re.weak he, fun h1 => absurd h1 he⟩
end
end Go.Proofs.Ytcbagajjgbfgdaa

/- Package ops: Check of both. Conditions: none. -/
namespace Go.Proofs.Ytcbagajjgbfgdaa
open Go.RowKit Go.PlainAid
set_option linter.unusedVariables false


abbrev OpT := ByteArray × ByteArray × Bool
def opE (o : OpT) : List Value := [.string o.1, .string o.2.1, .bool o.2.2]
theorem opE_len (o : OpT) : (opE o).length = 3 := rfl
theorem eq_op (a b d e : ByteArray) (c f : Bool) (w : World) : (binOp .eql 115 (.agg #[.string a, .string b, .bool c]) (.agg #[.string d, .string e, .bool f])).run Try.prog w = .ok (.bool (a.toList == d.toList && b.toList == e.toList && c == f)) w := by
  have u := Try.underlying9
  have u' := Try.underlying4
  have hS : Try.prog.underlying 115 = some (.struct (Try.prog.fieldsOf 115)) := by kernel_rfl
  have hp : Try.prog.stoodInHeld 115 = false := by kernel_rfl
  have hf : (Try.prog.fieldsOf 115).toList.map (fun f => (f.offset, f.type)) = [(0, 9), (1, 9), (2, 4)] := by kernel_rfl
  rw [run_eql_struct, show (10000 : Nat) = 9999 + 1 from rfl, run_equalIn_agg w 9999 115 _ _ hS hp]
  simp only [Program.fieldsOf, Try.underlying115]
  go_simp
  by_cases h1 : a.toList = d.toList <;> by_cases h2 : b.toList = e.toList <;> by_cases h3 : c = f <;> simp [h1, h2, h3]
theorem bl_flip : ∀ (x y : List UInt8), (Op.bytesLess x y || x == y) = !Op.bytesLess y x
  | [], [] => rfl
  | [], _ :: _ => rfl
  | _ :: _, [] => rfl
  | a :: x, b :: y => by
    have ih := bl_flip x y
    show ((decide (a < b) || (a == b && Op.bytesLess x y)) || (a == b && x == y)) = !(decide (b < a) || (b == a && Op.bytesLess y x))
    rcases Nat.lt_trichotomy a.toNat b.toNat with h | h | h
    · have h1 : a < b := h
      have h2 : ¬ b < a := fun q => by have : b.toNat < a.toNat := q; omega
      have h3 : ¬ b = a := fun q => by subst q; omega
      simp [h1, h2, h3]
    · have e : a = b := UInt8.toNat.inj h
      subst e
      have h2 : ¬ a < a := fun q => by have : a.toNat < a.toNat := q; omega
      simp [h2]; simpa using ih
    · have h1 : ¬ a < b := fun q => by have : a.toNat < b.toNat := q; omega
      have h2 : b < a := h
      have h3 : ¬ a = b := fun q => by subst q; omega
      simp [h1, h2, h3]
/-- What a key's check answers; an operation's; those of all, each key above the one ahead of it. -/
def keyC (k : ByteArray) : Int := if ((k.size : Nat) : Int) < 1 ∨ ((k.size : Nat) : Int) > 8 then 10 else 0
def delV (o : OpT) : Bool := o.2.2 && !(o.2.1.toList == (⟨#[]⟩ : ByteArray).toList)
theorem delV_t {o : OpT} {b : Bool} (h : o.2.2 = true) (h2 : (!(o.2.1.toList == (⟨#[]⟩ : ByteArray).toList)) = b) : delV o = b := by unfold delV; rw [h, h2]; rfl
theorem delV_f {o : OpT} (h : o.2.2 = false) : delV o = false := by unfold delV; rw [h]; rfl
def chkOp (o : OpT) : Int := if keyC o.1 ≠ 0 then keyC o.1 else if ((o.2.1.size : Nat) : Int) > 8 then 3 else if delV o = true then 4 else 0
def keyUp (p : Option ByteArray) (k : ByteArray) : Bool := match p with | some q => Op.bytesLess q.toList k.toList | none => true
def chkL : Option ByteArray → List OpT → Int
  | _, [] => 0
  | p, o :: r => if chkOp o ≠ 0 then chkOp o else if keyUp p o.1 = true then chkL (some o.1) r else 18
def prevK (l : List OpT) (i : Nat) : Option ByteArray := if i = 0 then none else (l[i - 1]?).map (·.1)
def chkB (c r : Int) (l : List OpT) : Int := if c < 0 ∨ c ≥ 3 then 1 else if r < 1 ∨ r > 1073741824 then 5 else if ((l.length : Nat) : Int) > 4 then 6 else chkL none l
theorem prevK_succ {l : List OpT} {i : Nat} {y : OpT} (h : l[i]? = some y) : prevK l (i + 1) = some y.1 := by simp [prevK, h]
theorem prevK_pos {l : List OpT} {i j : Nat} {y : OpT} (hj : j = i - 1) (h0 : 0 < i) (h : l[j]? = some y) : prevK l i = some y.1 := by
  subst hj; simp [prevK, h]; omega
theorem dropO_at {l : List OpT} {i : Nat} {y : OpT} (h : l[i]? = some y) : l.drop i = y :: l.drop (i + 1) := by
  obtain ⟨hi, rfl⟩ := List.getElem?_eq_some_iff.1 h
  exact List.drop_eq_getElem_cons hi
theorem takeO_at {α : Type} {l : List α} {i : Nat} {y : α} (h : l[i]? = some y) : l.take (i + 1) = l.take i ++ [y] := by
  rw [List.take_add_one, h]; rfl
theorem chkL_bad {l : List OpT} {i : Nat} {y : OpT} {z : Int} (h : chkL (prevK l i) (l.drop i) = z) (hy : l[i]? = some y) (hc : chkOp y ≠ 0) : chkOp y = z := by
  rw [dropO_at hy] at h; unfold chkL at h; rwa [if_pos hc] at h
theorem chkL_step {l : List OpT} {i : Nat} {y : OpT} {z : Int} (h : chkL (prevK l i) (l.drop i) = z) (hy : l[i]? = some y) (hc : chkOp y = 0) (hu : keyUp (prevK l i) y.1 = true) : chkL (prevK l (i + 1)) (l.drop (i + 1)) = z := by
  rw [dropO_at hy] at h; unfold chkL at h; rw [if_neg (by simp [hc]), if_pos hu] at h
  rw [prevK_succ hy]; exact h
theorem chkL_ord {l : List OpT} {i : Nat} {y : OpT} {z : Int} (h : chkL (prevK l i) (l.drop i) = z) (hy : l[i]? = some y) (hc : chkOp y = 0) (hu : keyUp (prevK l i) y.1 = false) : 18 = z := by
  rw [dropO_at hy] at h; unfold chkL at h; rwa [if_neg (by simp [hc]), if_neg (by simp [hu])] at h
theorem chkL_end {l : List OpT} {i : Nat} {z : Int} (h : chkL (prevK l i) (l.drop i) = z) (hi : l.length ≤ i) : 0 = z := by
  rw [List.drop_eq_nil_of_le hi] at h; simpa [chkL] using h
theorem keyUp_flip {l : List OpT} {i j : Nat} {y y' : OpT} {b : Bool} (hj : j = i - 1) (h0 : 0 < i) (h : l[j]? = some y') (hb : (Op.bytesLess y.1.toList y'.1.toList || y.1.toList == y'.1.toList) = b) : keyUp (prevK l i) y.1 = !b := by
  rw [bl_flip] at hb; rw [prevK_pos hj h0 h]; rw [← hb]; simp [keyUp]
theorem keyUp_0 {l : List OpT} {i : Nat} {k : ByteArray} (h0 : ¬ (0 : Int) < i) : keyUp (prevK l i) k = true := by
  obtain rfl : i = 0 := by omega
  rfl
theorem chkB_a {c r z : Int} {l : List OpT} (hz : chkB c r l = z) (h : c < 0 ∨ c ≥ 3) : 1 = z := by unfold chkB at hz; rwa [if_pos h] at hz
theorem chkB_b {c r z : Int} {l : List OpT} (hz : chkB c r l = z) (h : ¬ (c < 0 ∨ c ≥ 3)) (h1 : r < 1 ∨ r > 1073741824) : 5 = z := by unfold chkB at hz; rwa [if_neg h, if_pos h1] at hz
theorem chkB_c {c r z : Int} {l : List OpT} (hz : chkB c r l = z) (h : ¬ (c < 0 ∨ c ≥ 3)) (h1 : ¬ (r < 1 ∨ r > 1073741824)) (h2 : ((l.length : Nat) : Int) > 4) : 6 = z := by unfold chkB at hz; rwa [if_neg h, if_neg h1, if_pos h2] at hz
theorem chkB_d {c r z : Int} {l : List OpT} (hz : chkB c r l = z) (h : ¬ (c < 0 ∨ c ≥ 3)) (h1 : ¬ (r < 1 ∨ r > 1073741824)) (h2 : ¬ ((l.length : Nat) : Int) > 4) : chkL (prevK l 0) (l.drop 0) = z := by unfold chkB at hz; rwa [if_neg h, if_neg h1, if_neg h2] at hz
theorem chkOp_a {o : OpT} (h : keyC o.1 ≠ 0) : chkOp o = keyC o.1 := by unfold chkOp; rw [if_pos h]
theorem chkOp_b {o : OpT} (h : ¬ keyC o.1 ≠ 0) (h1 : ((o.2.1.size : Nat) : Int) > 8) : chkOp o = 3 := by unfold chkOp; rw [if_neg h, if_pos h1]
theorem chkOp_c {o : OpT} (h : ¬ keyC o.1 ≠ 0) (h1 : ¬ ((o.2.1.size : Nat) : Int) > 8) (h2 : delV o = true) : chkOp o = 4 := by unfold chkOp; rw [if_neg h, if_neg h1, if_pos h2]
theorem chkOp_d {o : OpT} (h : ¬ keyC o.1 ≠ 0) (h1 : ¬ ((o.2.1.size : Nat) : Int) > 8) (h2 : delV o = false) : chkOp o = 0 := by unfold chkOp; rw [if_neg h, if_neg h1, if_neg (by simp [h2])]
theorem keyC_ok {k : ByteArray} (h : keyC k = 0) : 1 ≤ k.size ∧ k.size ≤ 8 := by unfold keyC at h; split at h <;> omega
theorem chkOp_ok {o : OpT} (h : chkOp o = 0) : (1 ≤ o.1.size ∧ o.1.size ≤ 8) ∧ o.2.1.size ≤ 8 ∧ delV o = false := by
  unfold chkOp at h
  split at h
  · omega
  rename_i h1
  split at h
  · omega
  rename_i h2
  split at h
  · omega
  rename_i h3
  exact ⟨keyC_ok (by omega), by omega, by simpa using h3⟩
theorem chkL_all : ∀ (p : Option ByteArray) (l : List OpT), chkL p l = 0 → ∀ z ∈ l, chkOp z = 0
  | _, [], _, _, h => by cases h
  | p, o :: r, h, z, hz => by
    unfold chkL at h
    by_cases h1 : chkOp o ≠ 0
    · rw [if_pos h1] at h; exact absurd h h1
    · rw [if_neg h1] at h
      by_cases h2 : keyUp p o.1 = true
      · rw [if_pos h2] at h
        rcases List.mem_cons.1 hz with rfl | hz
        · omega
        · exact chkL_all _ r h z hz
      · rw [if_neg h2] at h; omega
theorem chkB_ok {c r : Int} {l : List OpT} (h : chkB c r l = 0) : (0 ≤ c ∧ c < 3) ∧ (1 ≤ r ∧ r ≤ 1073741824) ∧ l.length ≤ 4 ∧ chkL none l = 0 := by
  unfold chkB at h
  split at h
  · omega
  split at h
  · omega
  split at h
  · omega
  exact ⟨by omega, by omega, by omega, h⟩
def OpOk (z : OpT) : Prop := (1 ≤ z.1.size ∧ z.1.size ≤ 8) ∧ z.2.1.size ≤ 8 ∧ delV z = false
theorem chkB_all {c r : Int} {l : List OpT} (h : chkB c r l = 0) : ∀ z ∈ l, OpOk z := fun z hz => chkOp_ok (chkL_all _ l (chkB_ok h).2.2.2 z hz)

set_option maxRecDepth 100000 in
theorem pKey_any (k : ByteArray) (w : World)  :
    Calls Try.prog 81 #[.string k] w fun e w' => e = .returned (.int .i64 (keyC k)) ∧ Below w.heap.size w w' := by
 have hB0 := Below.refl w.heap.size w;refine co_enter (n := 11) Try.func81 rfl rfl rfl [(0, .string k)] rfl (fun a s => ?_);refine q2 ?_;refine pk0 (v := .int .i64 0) s rfl fun _ s => q6 ?_;refine pk0 (v := .string k) s rfl fun _ s => ?_;refine pk (v := .int .i64 (k.size : Int)) s rfl (rn_lenStr rfl rfl Try.underlying9) fun _ s => ?_;refine pk0 (v := .bool (decide ((k.size : Int) < 1))) s rfl fun _ s => ?_;refine pk0 (v := .bool (decide ((k.size : Int) < 1))) s rfl fun _ s => ?_;cases hc6 : (decide ((k.size : Int) < 1))
 ·
  rw [hc6] at s;have hp7 : ¬ ((k.size : Int) < 1) := of_decide_eq_false hc6;refine pk0 (v := .string k) s rfl fun _ s => ?_;refine pk (v := .int .i64 (k.size : Int)) s rfl (rn_lenStr rfl rfl Try.underlying9) fun _ s => ?_;refine pk0 (v := .bool (decide ((k.size : Int) > 8))) s rfl fun _ s => ?_;refine pk0 (v := .bool (decide ((k.size : Int) > 8))) s rfl fun _ s => q1 ?_;cases hc12 : (decide ((k.size : Int) > 8))
  ·
   rw [hc12] at s;have hp13 : ¬ ((k.size : Int) > 8) := of_decide_eq_false hc12;refine co_false s rfl <| q7 ?_;refine pk0 (v := .int .i64 0) s rfl fun _ s => q4 ?_;refine co_ret1 s rfl rfl ?_;exact ⟨ret_int (by unfold keyC; first | rw [if_pos (by omega)] | rw [if_neg (by omega)]), hB0⟩
  rw [hc12] at s;have hp15 : (k.size : Int) > 8 := of_decide_eq_true hc12;refine co_true s rfl <| q2 ?_;refine pk0 (v := .int .i64 10) s rfl fun _ s => q5 ?_;refine co_ret1 s rfl rfl ?_;exact ⟨ret_int (by unfold keyC; first | rw [if_pos (by omega)] | rw [if_neg (by omega)]), hB0⟩
 rw [hc6] at s;have hp17 : (k.size : Int) < 1 := of_decide_eq_true hc6;refine psk s rfl fun _ s => ?_;refine psk s rfl fun _ s => ?_;refine psk s rfl fun _ s => ?_;refine pk0 (v := .bool true) s rfl fun _ s => q1 ?_;refine co_true s rfl <| q2 ?_;refine pk0 (v := .int .i64 10) s rfl fun _ s => q5 ?_;refine co_ret1 s rfl rfl ?_;exact ⟨ret_int (by unfold keyC; first | rw [if_pos (by omega)] | rw [if_neg (by omega)]), hB0⟩
set_option maxRecDepth 100000 in
theorem chkOp_any (o : OpT) (w : World)  :
    Calls Try.prog 80 #[.agg #[.string o.1, .string o.2.1, .bool o.2.2]] w fun e w' => e = .returned (.int .i64 (chkOp o)) ∧ Below w.heap.size w w' := by
 have hB0 := Below.refl w.heap.size w;refine co_enter (n := 21) Try.func80 rfl rfl rfl [(0, .agg #[.string o.1, .string o.2.1, .bool o.2.2])] rfl (fun a s => ?_);refine q2 ?_;refine pw s rfl (op_new (v := fun N => pt N 0) (T := 115) (cs := #[.string o.1, .string o.2.1, .bool o.2.2]) (by kernel_rfl) (by kernel_rfl) (by kernel_rfl)) ?_;rintro _ w2 a1 ⟨N3, rfl, hN6, hz7, hk5, hg4⟩ s;have hz8 := hg4.size
 try dsimp only at s
 refine pk0 (v := .int .i64 0) s rfl fun _ s => q6 ?_;refine pk0 (v := pt N3 0) s rfl fun _ s => ?_;refine pk (v := .string o.1) s rfl (rn_load1 rfl rfl Try.isAgg9 (hk5.cell rfl)) fun _ s => ?_;refine pw s rfl (op_call (args := #[.string o.1]) (R := fun res xw => res = .int .i64 (keyC o.1) ∧ Below w2.heap.size w2 xw) rfl rfl rfl (by kernel_rfl) (by kernel_rfl) (Try.call81 _ _) (pKey_any o.1 w2 ) (by rintro e x ⟨rfl, hb14⟩; exact ⟨_, rfl, ⟨rfl, hb14⟩⟩)) ?_;rintro _ w13 a12 ⟨rfl, hb14⟩ s;have hz15 := hb14.size;refine pk0 (v := .int .i64 (keyC o.1)) s rfl fun _ s => q3 ?_;refine pk0 (v := .int .i64 (keyC o.1)) s rfl fun _ s => ?_;refine pk0 (v := .bool (keyC o.1 != 0)) s rfl fun _ s => q1 ?_;have hB20 := hb_new hB0 hg4;have hB21 := hb_call hB20 hb14;cases hc19 : (keyC o.1 != 0)
 ·
  rw [hc19] at s;have hp22 : ¬ (keyC o.1 ≠ 0) := by first | simpa using hc19 | simpa [and_assoc] using hc19
  refine co_false s rfl <| q8 ?_;refine pk0 (v := pt N3 1) s rfl fun _ s => ?_;have hk24 := hk5.below hb14;refine pk (v := .string o.2.1) s rfl (rn_load1 rfl rfl Try.isAgg9 (hk24.cell rfl)) fun _ s => ?_;refine pk (v := .int .i64 (o.2.1.size : Int)) s rfl (rn_lenStr rfl rfl Try.underlying9) fun _ s => ?_;refine pk0 (v := .bool (decide ((o.2.1.size : Int) > 8))) s rfl fun _ s => q1 ?_;cases hc28 : (decide ((o.2.1.size : Int) > 8))
  ·
   rw [hc28] at s;have hp29 : ¬ ((o.2.1.size : Int) > 8) := of_decide_eq_false hc28;refine co_false s rfl <| q8 ?_;refine pk0 (v := pt N3 2) s rfl fun _ s => ?_;refine pk (v := .bool o.2.2) s rfl (rn_load1 rfl rfl Try.isAgg4 (hk24.cell rfl)) fun _ s => ?_;refine pk0 (v := .bool o.2.2) s rfl fun _ s => ?_;cases hc33 : (o.2.2)
   ·
    rw [hc33] at s;refine psk s rfl fun _ s => ?_;refine psk s rfl fun _ s => ?_;refine psk s rfl fun _ s => ?_;refine pk0 (v := .bool false) s rfl fun _ s => q1 ?_;refine co_false s rfl <| q7 ?_;refine pk0 (v := .int .i64 0) s rfl fun _ s => q4 ?_;refine co_ret1 s rfl rfl ?_;exact ⟨ret_int (by first | exact (chkOp_a (by assumption)).symm | exact (chkOp_b (by assumption) (by assumption)).symm | exact (chkOp_c (by assumption) (by assumption) (by first | exact delV_t (by assumption) (by assumption) | exact delV_f (by assumption))).symm | exact (chkOp_d (by assumption) (by assumption) (by first | exact delV_t (by assumption) (by assumption) | exact delV_f (by assumption))).symm), hB21⟩
   rw [hc33] at s;refine pk0 (v := pt N3 1) s rfl fun _ s => ?_;refine pk (v := .string o.2.1) s rfl (rn_load1 rfl rfl Try.isAgg9 (hk24.cell rfl)) fun _ s => ?_;refine pk0 (v := .bool (!(o.2.1.toList == (⟨#[]⟩ : ByteArray).toList))) s rfl fun _ s => ?_;refine pk0 (v := .bool (!(o.2.1.toList == (⟨#[]⟩ : ByteArray).toList))) s rfl fun _ s => q1 ?_;cases hc43 : (!(o.2.1.toList == (⟨#[]⟩ : ByteArray).toList))
   ·
    rw [hc43] at s;refine co_false s rfl <| q7 ?_;refine pk0 (v := .int .i64 0) s rfl fun _ s => q4 ?_;refine co_ret1 s rfl rfl ?_;exact ⟨ret_int (by first | exact (chkOp_a (by assumption)).symm | exact (chkOp_b (by assumption) (by assumption)).symm | exact (chkOp_c (by assumption) (by assumption) (by first | exact delV_t (by assumption) (by assumption) | exact delV_f (by assumption))).symm | exact (chkOp_d (by assumption) (by assumption) (by first | exact delV_t (by assumption) (by assumption) | exact delV_f (by assumption))).symm), hB21⟩
   rw [hc43] at s;refine co_true s rfl <| q2 ?_;refine pk0 (v := .int .i64 4) s rfl fun _ s => q5 ?_;refine co_ret1 s rfl rfl ?_;exact ⟨ret_int (by first | exact (chkOp_a (by assumption)).symm | exact (chkOp_b (by assumption) (by assumption)).symm | exact (chkOp_c (by assumption) (by assumption) (by first | exact delV_t (by assumption) (by assumption) | exact delV_f (by assumption))).symm | exact (chkOp_d (by assumption) (by assumption) (by first | exact delV_t (by assumption) (by assumption) | exact delV_f (by assumption))).symm), hB21⟩
  rw [hc28] at s;have hp46 : (o.2.1.size : Int) > 8 := of_decide_eq_true hc28;refine co_true s rfl <| q2 ?_;refine pk0 (v := .int .i64 3) s rfl fun _ s => q5 ?_;refine co_ret1 s rfl rfl ?_;exact ⟨ret_int (by first | exact (chkOp_a (by assumption)).symm | exact (chkOp_b (by assumption) (by assumption)).symm | exact (chkOp_c (by assumption) (by assumption) (by first | exact delV_t (by assumption) (by assumption) | exact delV_f (by assumption))).symm | exact (chkOp_d (by assumption) (by assumption) (by first | exact delV_t (by assumption) (by assumption) | exact delV_f (by assumption))).symm), hB21⟩
 rw [hc19] at s;have hp48 : keyC o.1 ≠ 0 := by first | simpa using hc19 | simpa [and_assoc] using hc19
 refine co_true s rfl <| q2 ?_;refine pk0 (v := .int .i64 (keyC o.1)) s rfl fun _ s => ?_;refine pk0 (v := .int .i64 (keyC o.1)) s rfl fun _ s => q5 ?_;refine co_ret1 s rfl rfl ?_;exact ⟨ret_int (by first | exact (chkOp_a (by assumption)).symm | exact (chkOp_b (by assumption) (by assumption)).symm | exact (chkOp_c (by assumption) (by assumption) (by first | exact delV_t (by assumption) (by assumption) | exact delV_f (by assumption))).symm | exact (chkOp_d (by assumption) (by assumption) (by first | exact delV_t (by assumption) (by assumption) | exact delV_f (by assumption))).symm), hB21⟩
set_option maxRecDepth 100000 in
theorem opsCheck_any (c : Int) (r : Int) (v : Value) (l : List OpT) (w : World) (hs : SliceOf opE 3 w v l) :
    Calls Try.prog 59 #[.agg #[.int .i64 c, .int .i64 r, v]] w fun e w' => e = .returned (.int .i64 (chkB c r l)) ∧ Below w.heap.size w w' := by
 have hB0 := Below.refl w.heap.size w;have hl_hs := sl_len hs;refine co_enter (n := 54) Try.func59 rfl rfl rfl [(0, .agg #[.int .i64 c, .int .i64 r, v])] rfl (fun a s => ?_);refine q2 ?_;refine pw s rfl (op_new (v := fun N => pt N 0) (T := 29) (cs := #[.int .i64 c, .int .i64 r, v]) (by kernel_rfl) (by kernel_rfl) (by kernel_rfl)) ?_;rintro _ w2 a1 ⟨N3, rfl, hN6, hz7, hk5, hg4⟩ s;have hz8 := hg4.size
 try dsimp only at s
 refine pk0 (v := .int .i64 0) s rfl fun _ s => q6 ?_;refine pk0 (v := pt N3 0) s rfl fun _ s => ?_;refine pk (v := .int .i64 c) s rfl (rn_load1 rfl rfl Try.isAgg3 (hk5.cell rfl)) fun _ s => ?_;refine pk0 (v := .bool (decide (c < 0))) s rfl fun _ s => ?_;refine pk0 (v := .bool (decide (c < 0))) s rfl fun _ s => ?_;have hB15 := hb_new hB0 hg4;cases hc14 : (decide (c < 0))
 ·
  rw [hc14] at s;have hp16 : ¬ (c < 0) := of_decide_eq_false hc14;refine pk0 (v := pt N3 0) s rfl fun _ s => ?_;refine pk (v := .int .i64 c) s rfl (rn_load1 rfl rfl Try.isAgg3 (hk5.cell rfl)) fun _ s => ?_;refine pk0 (v := .bool (decide (c ≥ 3))) s rfl fun _ s => ?_;refine pk0 (v := .bool (decide (c ≥ 3))) s rfl fun _ s => q1 ?_;cases hc21 : (decide (c ≥ 3))
  ·
   rw [hc21] at s;have hp22 : ¬ (c ≥ 3) := of_decide_eq_false hc21;refine co_false s rfl <| q8 ?_;refine pk0 (v := pt N3 1) s rfl fun _ s => ?_;refine pk (v := .int .i64 r) s rfl (rn_load1 rfl rfl Try.isAgg3 (hk5.cell rfl)) fun _ s => ?_;refine pk0 (v := .bool (decide (r < 1))) s rfl fun _ s => ?_;refine pk0 (v := .bool (decide (r < 1))) s rfl fun _ s => ?_;cases hc27 : (decide (r < 1))
   ·
    rw [hc27] at s;have hp28 : ¬ (r < 1) := of_decide_eq_false hc27;refine pk0 (v := pt N3 1) s rfl fun _ s => ?_;refine pk (v := .int .i64 r) s rfl (rn_load1 rfl rfl Try.isAgg3 (hk5.cell rfl)) fun _ s => ?_;refine pk0 (v := .bool (decide (r > 1073741824))) s rfl fun _ s => ?_;refine pk0 (v := .bool (decide (r > 1073741824))) s rfl fun _ s => q1 ?_;cases hc33 : (decide (r > 1073741824))
    ·
     rw [hc33] at s;have hp34 : ¬ (r > 1073741824) := of_decide_eq_false hc33;refine co_false s rfl <| q8 ?_;refine pk0 (v := pt N3 2) s rfl fun _ s => ?_;refine pk (v := v) s rfl (rn_load1 rfl rfl Try.isAgg27 (hk5.cell rfl)) fun _ s => ?_;refine pk (v := .int .i64 (l.length : Int)) s rfl (rn_len rfl rfl Try.underlying27 (hs.below hB15)) fun _ s => ?_;refine pk0 (v := .bool (decide ((l.length : Int) > 4))) s rfl fun _ s => q1 ?_;cases hc39 : (decide ((l.length : Int) > 4))
     ·
      rw [hc39] at s;have hp40 : ¬ ((l.length : Int) > 4) := of_decide_eq_false hc39;refine co_false s rfl <| q8 ?_;refine pk0 (v := pt N3 2) s rfl fun _ s => ?_;refine pk (v := v) s rfl (rn_load1 rfl rfl Try.isAgg27 (hk5.cell rfl)) fun _ s => ?_;refine pk (v := .int .i64 (l.length : Int)) s rfl (rn_len rfl rfl Try.underlying27 (hs.below hB15)) fun _ s => ?_;refine pk0 (v := .int .i64 0) s rfl fun _ s => q1 <| wp_block ?_;have s : Slots 54 [(1, pt N3 0), (2, .int .i64 0), (27, v), (28, .int .i64 (l.length : Int)), (29, .int .i64 0)] _ := s.sub ⟨rfl, rfl, rfl, rfl, rfl, trivial⟩;refine co_loop (fun mm a x => ∃ (i : Nat), Slots 54 [(1, pt N3 0), (2, .int .i64 0), (27, v), (28, .int .i64 (l.length : Int)), (29, .int .i64 (i : Int))] a ∧ mm = l.length - i ∧ (i ≤ l.length) ∧ (chkL (prevK l i) (l.drop i) = chkB c r l) ∧ Below w.heap.size w x ∧ Blk x N3 29 #[.int .i64 c, .int .i64 r, v]) (l.length - 0) ?_ ?_
      · exact ⟨0, s.sub ⟨rfl, rfl, rfl, rfl, (slot_eq rfl (congrArg (Value.int .i64) (by first | rfl | omega))), trivial⟩, rfl, by omega, by first | exact chkB_d rfl (by omega) (by omega) (by omega) | exact hL', hB15, hk5⟩
      · rintro k46 a47 w48 ⟨i, s, rfl, hi49, hi50, hB51, hk52⟩
        have hz53 := hB51.size;have hl54 := hk52.lt;have hL : chkL (prevK l i) (l.drop i) = chkB c r l := by assumption
        refine q2 ?_;refine pk0 (v := .bool (decide ((i : Int) < (l.length : Int)))) s rfl fun _ s => q1 <| co_seq ?_;cases hc56 : (decide ((i : Int) < (l.length : Int)))
        ·
         rw [hc56] at s;have hp57 : ¬ ((i : Int) < (l.length : Int)) := of_decide_eq_false hc56;refine co_false s rfl <| wp_exit <| co_thenX <| co_thenX <| qx <| q2 ?_;refine pk0 (v := .int .i64 0) s rfl fun _ s => q4 ?_;refine co_ret1 s rfl rfl ?_;exact ⟨ret_int (chkL_end (i := i) hL (by omega)), hB51⟩
        rw [hc56] at s;have hp59 : (i : Int) < (l.length : Int) := of_decide_eq_true hc56;refine co_true s rfl <| q0 <| co_seq <| wp_block <| q2 ?_;refine pk0 (v := .int .i64 (i : Int)) s rfl fun _ s => ?_;obtain ⟨y61, hy61⟩ : ∃ z, l[i]? = some z := ⟨_, List.getElem?_eq_getElem (by first | omega | (simp; done) | (simp; omega))⟩;refine pk (v := pt (blkOf v) (offOf v + i * 3)) s rfl (rn_index rfl rfl rfl Try.underlying27 Try.sizeOf115 (hs.below hB51) (by omega) (by first | omega | (simp; done) | (simp; omega))) fun _ s => ?_;refine pk (v := .agg #[.string y61.1, .string y61.2.1, .bool y61.2.2]) s rfl (rn_loadN rfl rfl Try.underlying115 rfl (by kernel_rfl) (sl_at (hs.below hB51) hy61)) fun _ s => ?_;refine pw s rfl (op_new (v := fun N => pt N 0) (T := 115) (cs := #[.string (⟨#[]⟩), .string (⟨#[]⟩), .bool false]) (by kernel_rfl) (by kernel_rfl) (by kernel_rfl)) ?_;rintro _ w65 a64 ⟨N66, rfl, hN69, hz70, hk68, hg67⟩ s;have hz71 := hg67.size
        try dsimp only at s
        refine pk0 (v := .int .i64 (i : Int)) s rfl fun _ s => ?_;refine pwD s rfl (op_storeN rfl rfl rfl (by kernel_rfl) (by kernel_rfl) hk68 rfl) ?_;rintro _ w74 a73 ⟨hk75, hz76, hg77⟩ s;have hk75' : Blk w74 N66 115 #[.string y61.1, .string y61.2.1, .bool y61.2.2] := hk75;have hz78 := hg77.size;refine q6 ?_;refine pk (v := .agg #[.string y61.1, .string y61.2.1, .bool y61.2.2]) s rfl (rn_loadN rfl rfl Try.underlying115 rfl (by kernel_rfl) hk75'.all) fun _ s => ?_;refine pw s rfl (op_call (args := #[.agg #[.string y61.1, .string y61.2.1, .bool y61.2.2]]) (R := fun res xw => res = .int .i64 (chkOp y61) ∧ Below w74.heap.size w74 xw) rfl rfl rfl (by kernel_rfl) (by kernel_rfl) (Try.call80 _ _) (chkOp_any y61 w74 ) (by rintro e x ⟨rfl, hb82⟩; exact ⟨_, rfl, ⟨rfl, hb82⟩⟩)) ?_;rintro _ w81 a80 ⟨rfl, hb82⟩ s;have hz83 := hb82.size;refine pk0 (v := .int .i64 (chkOp y61)) s rfl fun _ s => q3 ?_;refine pk0 (v := .int .i64 (chkOp y61)) s rfl fun _ s => ?_;refine pk0 (v := .bool (chkOp y61 != 0)) s rfl fun _ s => q1 ?_;have hB88 := hb_new hB51 hg67;have hB89 := hb_at hB88 hg77 (by omega);have hB90 := hb_call hB89 hb82;have hk91 := hk52.kept hg67 (by simp);have hk92 := hk91.kept hg77 (by simp; omega);have hk93 := hk92.below hb82;cases hc87 : (chkOp y61 != 0)
        ·
         rw [hc87] at s;have hp94 : ¬ (chkOp y61 ≠ 0) := by first | simpa using hc87 | simpa [and_assoc] using hc87
         refine co_false s rfl <| q0 <| co_seq ?_;refine dr_eq (by kernel_rfl) (fun w95 hg96 => ?_);have hz97 := hg96.size;refine dk0 0 (v := .int .i64 (i : Int)) s rfl rfl rfl fun _ s => ?_;refine dk0 1 (v := .bool (decide ((i : Int) > 0))) s rfl rfl rfl fun _ s => ?_;refine dk0 2 (v := .bool (decide ((i : Int) > 0))) s rfl rfl rfl fun _ s => ?_;have hB102 := hb_new hB90 hg96;have hk103 := hk75'.below hb82;have hk104 := hk103.kept hg96 (by simp);cases hc101 : (decide ((i : Int) > 0))
         ·
          rw [hc101] at s;have hp105 : ¬ ((i : Int) > 0) := of_decide_eq_false hc101;refine dsk 3 s rfl rfl rfl fun _ s => ?_;refine dsk 4 s rfl rfl rfl fun _ s => ?_;refine dsk 5 s rfl rfl rfl fun _ s => ?_;refine dsk 6 s rfl rfl rfl fun _ s => ?_;refine dsk 7 s rfl rfl rfl fun _ s => ?_;refine dsk 8 s rfl rfl rfl fun _ s => ?_;refine dsk 9 s rfl rfl rfl fun _ s => ?_;refine dsk 10 s rfl rfl rfl fun _ s => ?_;refine dsk 11 s rfl rfl rfl fun _ s => ?_;refine dsk 12 s rfl rfl rfl fun _ s => ?_;refine dk0 13 (v := .bool false) s rfl rfl rfl fun _ s => ?_;refine dr_done (by kernel_rfl) ?_;refine co_then ?_;refine co_false s rfl <| wp_skip <| co_blockN <| co_then <| co_reg ?_;refine pk (v := .int .i64 ((i + 1 : Nat) : Int)) s rfl (rn_arith' rfl rfl rfl rfl rfl rfl (IntWalk.i64_in _ (by omega)) (by omega)) fun _ s => ?_;refine pk0 (v := .int .i64 ((i + 1 : Nat) : Int)) s rfl fun _ s => q1 ?_;refine ⟨(l.length - (i + 1)), by omega, ?_⟩;have hO : chkOp y61 = 0 := by omega
          have hU : keyUp (prevK l i) y61.1 = true := (keyUp_0 (by omega));have hL' := chkL_step (i := i) hL hy61 hO hU;have hk119 := hk93.kept hg96 (by simp);exact ⟨i + 1, s.sub ⟨rfl, rfl, rfl, rfl, rfl, trivial⟩, rfl, by omega, by first | exact chkB_d rfl (by omega) (by omega) (by omega) | exact hL', hB102, hk119⟩
         rw [hc101] at s;have hp120 : (i : Int) > 0 := of_decide_eq_true hc101;refine dk0 3 (v := pt N66 0) s rfl rfl rfl fun _ s => ?_;refine dk 4 (v := .string y61.1) s rfl rfl rfl (fun x hx => by subst hx; exact (rn_load1 rfl rfl Try.isAgg9 (hk104.cell rfl))) fun _ s => ?_;refine dk0 5 (v := pt N3 2) s rfl rfl rfl fun _ s => ?_;have hk124 := hk93.kept hg96 (by simp);refine dk 6 (v := v) s rfl rfl rfl (fun x hx => by subst hx; exact (rn_load1 rfl rfl Try.isAgg27 (hk124.cell rfl))) fun _ s => ?_;refine dk0 7 (v := .int .i64 (i : Int)) s rfl rfl rfl fun _ s => ?_;refine dk 8 (v := .int .i64 ((i : Int) - 1)) s rfl rfl rfl (fun x hx => by subst hx; exact (rn_arith rfl rfl rfl rfl rfl rfl (IntWalk.i64_in _ (by omega)))) fun _ s => ?_;obtain ⟨y128, hy128⟩ : ∃ z, l[((i : Int) - 1).toNat]? = some z := ⟨_, List.getElem?_eq_getElem (by first | omega | (simp; done) | (simp; omega))⟩;refine dk 9 (v := pt (blkOf v) (offOf v + (((i : Int) - 1).toNat) * 3)) s rfl rfl rfl (fun x hx => by subst hx; exact (rn_index rfl rfl rfl Try.underlying27 Try.sizeOf115 (hs.below hB102) (by omega) (by first | omega | (simp; done) | (simp; omega)))) fun _ s => ?_;refine dk0 10 (v := pt (blkOf v) (offOf v + (((i : Int) - 1).toNat) * 3)) s rfl rfl rfl fun _ s => ?_;refine dk 11 (v := .string y128.1) s rfl rfl rfl (fun x hx => by subst hx; exact (rn_load1 rfl rfl Try.isAgg9 ((sl_at (hs.below hB102) hy128) 0 _ rfl))) fun _ s => ?_;refine dk0 12 (v := .bool (Op.bytesLess y61.1.toList y128.1.toList || y61.1.toList == y128.1.toList)) s rfl rfl rfl fun _ s => ?_;refine dk0 13 (v := .bool (Op.bytesLess y61.1.toList y128.1.toList || y61.1.toList == y128.1.toList)) s rfl rfl rfl fun _ s => ?_;refine dr_done (by kernel_rfl) ?_;refine co_then ?_;cases hc134 : ((Op.bytesLess y61.1.toList y128.1.toList || y61.1.toList == y128.1.toList))
         ·
          rw [hc134] at s;refine co_false s rfl <| wp_skip <| co_blockN <| co_then <| co_reg ?_;refine pk (v := .int .i64 ((i + 1 : Nat) : Int)) s rfl (rn_arith' rfl rfl rfl rfl rfl rfl (IntWalk.i64_in _ (by omega)) (by omega)) fun _ s => ?_;refine pk0 (v := .int .i64 ((i + 1 : Nat) : Int)) s rfl fun _ s => q1 ?_;refine ⟨(l.length - (i + 1)), by omega, ?_⟩;have hO : chkOp y61 = 0 := by omega
          have hU : keyUp (prevK l i) y61.1 = true := (keyUp_flip (l := l) (i := i) (b := false) (y := y61) (j := ((i : Int) - 1).toNat) (by omega) (by omega) hy128 (by assumption));have hL' := chkL_step (i := i) hL hy61 hO hU;exact ⟨i + 1, s.sub ⟨rfl, rfl, rfl, rfl, rfl, trivial⟩, rfl, by omega, by first | exact chkB_d rfl (by omega) (by omega) (by omega) | exact hL', hB102, hk124⟩
         rw [hc134] at s;refine co_true s rfl <| q2 ?_;refine pk0 (v := .int .i64 18) s rfl fun _ s => q4 <| qr <| co_thenR <| qr ?_;refine co_ret1 s rfl rfl ?_;have hO : chkOp y61 = 0 := by omega
         exact ⟨ret_int (chkL_ord (i := i) hL hy61 hO (keyUp_flip (l := l) (i := i) (b := true) (y := y61) (j := ((i : Int) - 1).toNat) (by omega) (by omega) hy128 (by assumption))), hB102⟩
        rw [hc87] at s;have hp138 : chkOp y61 ≠ 0 := by first | simpa using hc87 | simpa [and_assoc] using hc87
        refine co_true s rfl <| q2 ?_;refine pk0 (v := .int .i64 (chkOp y61)) s rfl fun _ s => ?_;refine pk0 (v := .int .i64 (chkOp y61)) s rfl fun _ s => q5 <| qr <| co_thenR <| qr ?_;refine co_ret1 s rfl rfl ?_;exact ⟨ret_int (chkL_bad (i := i) hL hy61 (by assumption)), hB90⟩
     rw [hc39] at s;have hp141 : (l.length : Int) > 4 := of_decide_eq_true hc39;refine co_true s rfl <| q2 ?_;refine pk0 (v := .int .i64 6) s rfl fun _ s => q5 ?_;refine co_ret1 s rfl rfl ?_;exact ⟨ret_int (chkB_c rfl (by omega) (by omega) (by omega)), hB15⟩
    rw [hc33] at s;have hp143 : r > 1073741824 := of_decide_eq_true hc33;refine co_true s rfl <| q2 ?_;refine pk0 (v := .int .i64 5) s rfl fun _ s => q5 ?_;refine co_ret1 s rfl rfl ?_;exact ⟨ret_int (chkB_b rfl (by omega) (by omega)), hB15⟩
   rw [hc27] at s;have hp145 : r < 1 := of_decide_eq_true hc27;refine psk s rfl fun _ s => ?_;refine psk s rfl fun _ s => ?_;refine psk s rfl fun _ s => ?_;refine pk0 (v := .bool true) s rfl fun _ s => q1 ?_;refine co_true s rfl <| q2 ?_;refine pk0 (v := .int .i64 5) s rfl fun _ s => q5 ?_;refine co_ret1 s rfl rfl ?_;exact ⟨ret_int (chkB_b rfl (by omega) (by omega)), hB15⟩
  rw [hc21] at s;have hp151 : c ≥ 3 := of_decide_eq_true hc21;refine co_true s rfl <| q2 ?_;refine pk0 (v := .int .i64 1) s rfl fun _ s => q5 ?_;refine co_ret1 s rfl rfl ?_;exact ⟨ret_int (chkB_a rfl (by omega)), hB15⟩
 rw [hc14] at s;have hp153 : c < 0 := of_decide_eq_true hc14;refine psk s rfl fun _ s => ?_;refine psk s rfl fun _ s => ?_;refine psk s rfl fun _ s => ?_;refine pk0 (v := .bool true) s rfl fun _ s => q1 ?_;refine co_true s rfl <| q2 ?_;refine pk0 (v := .int .i64 1) s rfl fun _ s => q5 ?_;refine co_ret1 s rfl rfl ?_;exact ⟨ret_int (chkB_a rfl (by omega)), hB15⟩
end Go.Proofs.Ytcbagajjgbfgdaa

/- Package ops: Same, Put of both. Conditions: none. -/
namespace Go.Proofs.Ytcbagajjgbfgdaa
open Go.RowKit Go.PlainAid
set_option linter.unusedVariables false


/-- The bytes of a batch. -/
def putO1 (o : OpT) : List UInt8 := (putL (o.1.size : Int) ++ o.1.data.toList) ++ [flagB o.2.2] ++ (putL (o.2.1.size : Int) ++ o.2.1.data.toList)
def putOs (l : List OpT) : List UInt8 := l.flatMap putO1
def putH (c r : Int) (l : List OpT) : List UInt8 := putL c ++ putL r ++ putL ((l.length : Nat) : Int)
def putB (c r : Int) (l : List OpT) : ByteArray := if chkB c r l = 0 then ⟨(putH c r l ++ putOs l).toArray⟩ else ⟨#[]⟩
theorem putB_ok {c r : Int} {l : List OpT} (h : chkB c r l = 0) : putB c r l = ⟨(putH c r l ++ putOs l).toArray⟩ := by unfold putB; rw [if_pos h]
theorem putB_err {c r : Int} {l : List OpT} (h : chkB c r l ≠ 0) : putB c r l = ⟨#[]⟩ := by unfold putB; rw [if_neg h]

set_option maxRecDepth 100000 in
theorem opsPut_any (c : Int) (r : Int) (v : Value) (l : List OpT) (w : World) (hs : SliceOf opE 3 w v l) :
    Calls Try.prog 40 #[.agg #[.int .i64 c, .int .i64 r, v]] w fun e w' => e = .returned (.tuple #[.string (putB c r l), .int .i64 (chkB c r l)]) ∧ Below w.heap.size w w' := by
 have hcb : chkB c r l = 0 → ((0 ≤ c ∧ c < 3) ∧ (1 ≤ r ∧ r ≤ 1073741824) ∧ l.length ≤ 4) := fun h => ⟨(chkB_ok h).1, (chkB_ok h).2.1, (chkB_ok h).2.2.1⟩;have hB0 := Below.refl w.heap.size w;have hl_hs := sl_len hs;refine co_enter (n := 46) Try.func40 rfl rfl rfl [(0, .agg #[.int .i64 c, .int .i64 r, v])] rfl (fun a s => ?_);refine q2 ?_;refine pw s rfl (op_new (v := fun N => pt N 0) (T := 29) (cs := #[.int .i64 c, .int .i64 r, v]) (by kernel_rfl) (by kernel_rfl) (by kernel_rfl)) ?_;rintro _ w2 a1 ⟨N3, rfl, hN6, hz7, hk5, hg4⟩ s;have hz8 := hg4.size
 try dsimp only at s
 refine pk0 (v := .string (⟨#[]⟩)) s rfl fun _ s => ?_;refine pk0 (v := .int .i64 0) s rfl fun _ s => q6 ?_;refine pk (v := .agg #[.int .i64 c, .int .i64 r, v]) s rfl (rn_loadN rfl rfl Try.underlying29 rfl (by kernel_rfl) hk5.all) fun _ s => ?_;have hB14 := hb_new hB0 hg4;refine pw s rfl (op_call (args := #[.agg #[.int .i64 c, .int .i64 r, v]]) (R := fun res xw => res = .int .i64 (chkB c r l) ∧ Below w2.heap.size w2 xw) rfl rfl rfl (by kernel_rfl) (by kernel_rfl) (Try.call59 _ _) (opsCheck_any c r v l w2 (hs.below hB14)) (by rintro e x ⟨rfl, hb15⟩; exact ⟨_, rfl, ⟨rfl, hb15⟩⟩)) ?_;rintro _ w13 a12 ⟨rfl, hb15⟩ s;have hz16 := hb15.size;refine pk0 (v := .int .i64 (chkB c r l)) s rfl fun _ s => q3 ?_;refine pk0 (v := .int .i64 (chkB c r l)) s rfl fun _ s => ?_;refine pk0 (v := .bool (chkB c r l != 0)) s rfl fun _ s => q1 ?_;have hB21 := hb_call hB14 hb15;cases hc20 : (chkB c r l != 0)
 ·
  rw [hc20] at s;have hp22 : ¬ (chkB c r l ≠ 0) := by first | simpa using hc20 | simpa [and_assoc] using hc20
  refine co_false s rfl <| q0 <| co_seq ?_;refine dr_gen (fun x => Below w.heap.size w x ∧ Blk x N3 29 #[.int .i64 c, .int .i64 r, v]) (by kernel_rfl) (fun w23 hg24 => ?_) (fun w23 hg24 => ?_)
  ·
   have hz25 := hg24.size;have hB26 := hb_new hB21 hg24;have hk27 := hk5.below hb15;have hk28 := hk27.kept hg24 (by simp);exact ⟨hB26, hk28⟩
  have hz29 := hg24.size;have hB30 := hb_new hB21 hg24;have hk31 := hk5.below hb15;have hk32 := hk31.kept hg24 (by simp);refine dk0 1 (v := pt N3 0) s rfl rfl ⟨hB30, hk32⟩ fun _ s => ?_;refine dk 2 (v := .int .i64 c) s rfl rfl ⟨hB30, hk32⟩ (fun x hx => (rn_load1 rfl rfl Try.isAgg3 (hx.2.cell rfl))) fun _ s => ?_;refine dk0 4 (v := pt N3 1) s rfl rfl ⟨hB30, hk32⟩ fun _ s => ?_;refine dk 5 (v := .int .i64 r) s rfl rfl ⟨hB30, hk32⟩ (fun x hx => (rn_load1 rfl rfl Try.isAgg3 (hx.2.cell rfl))) fun _ s => ?_;refine dk0 7 (v := pt N3 2) s rfl rfl ⟨hB30, hk32⟩ fun _ s => ?_;refine dk 8 (v := v) s rfl rfl ⟨hB30, hk32⟩ (fun x hx => (rn_load1 rfl rfl Try.isAgg27 (hx.2.cell rfl))) fun _ s => ?_;refine dk 9 (v := .int .i64 (l.length : Int)) s rfl rfl ⟨hB30, hk32⟩ (fun x hx => (rn_len rfl rfl Try.underlying27 (hs.below hx.1))) fun _ s => ?_;refine d1 0 s rfl rfl (op_call (args := #[]) (R := fun res xw => ∃ b : Nat, res = pt b 0 ∧ b = w23.heap.size ∧ OW b [] 0 xw ∧ Below w23.heap.size w23 xw) rfl rfl rfl (by kernel_rfl) (by kernel_rfl) (Try.call12 _ _) (ow_new w23) (by rintro e x ⟨b, rfl, h0, h1, h2⟩; exact ⟨_, rfl, b, rfl, h0, h1, h2⟩)) ?_ ?_
  ·
   rintro _ w41 ⟨b42, rfl, hN43, ho44, hb45⟩;have hz46 := hb45.size;have hl47 := ho44.lt;have hB48 := hb_call hB30 hb45;have hk49 := hk32.below hb45;exact ⟨hB48, hk49⟩
  rintro _ w41 a40 ⟨b42, rfl, hN43, ho44, hb45⟩ s;have hz46 := hb45.size;have hl47 := ho44.lt;have hB48 := hb_call hB30 hb45;have hk49 := hk32.below hb45;refine d1 3 s rfl rfl (op_call (args := #[pt b42 0, .int .i64 c]) (R := fun res xw => res = pt b42 0 ∧ OW b42 (([] : List UInt8) ++ putL c) (0 + 9) xw ∧ But (Rw w41 b42) w41 xw) rfl rfl rfl (by kernel_rfl) (by kernel_rfl) (Try.call13 _ _) (ow_num b42 ([]) 0 c w41 ho44 (by omega) (by omega) (by omega)) (by rintro e x ⟨rfl, h1, h2⟩; exact ⟨_, rfl, rfl, h1, h2⟩)) ?_ ?_
  ·
   rintro _ w51 ⟨rfl, ho52, hx53⟩;have hz54 := hx53.size;have hl55 := ho52.lt;have hB56 := hb_wr hB48 ho44 (by omega) hx53;have hk57 := blk_wr hk49 ho44 (by decide) (by omega) hx53;exact ⟨hB56, hk57⟩
  rintro _ w51 a50 ⟨rfl, ho52, hx53⟩ s;have hz54 := hx53.size;have hl55 := ho52.lt;have hB56 := hb_wr hB48 ho44 (by omega) hx53;have hk57 := blk_wr hk49 ho44 (by decide) (by omega) hx53;refine d1 6 s rfl rfl (op_call (args := #[pt b42 0, .int .i64 r]) (R := fun res xw => res = pt b42 0 ∧ OW b42 ((([] : List UInt8) ++ putL c) ++ putL r) (0 + 9 + 9) xw ∧ But (Rw w51 b42) w51 xw) rfl rfl rfl (by kernel_rfl) (by kernel_rfl) (Try.call13 _ _) (ow_num b42 (([] : List UInt8) ++ putL c) (0 + 9) r w51 ho52 (by omega) (by omega) (by omega)) (by rintro e x ⟨rfl, h1, h2⟩; exact ⟨_, rfl, rfl, h1, h2⟩)) ?_ ?_
  ·
   rintro _ w59 ⟨rfl, ho60, hx61⟩;have hz62 := hx61.size;have hl63 := ho60.lt;have hB64 := hb_wr hB56 ho52 (by omega) hx61;have hk65 := blk_wr hk57 ho52 (by decide) (by omega) hx61;exact ⟨hB64, hk65⟩
  rintro _ w59 a58 ⟨rfl, ho60, hx61⟩ s;have hz62 := hx61.size;have hl63 := ho60.lt;have hB64 := hb_wr hB56 ho52 (by omega) hx61;have hk65 := blk_wr hk57 ho52 (by decide) (by omega) hx61;refine d1 10 s rfl rfl (op_call (args := #[pt b42 0, .int .i64 (l.length : Int)]) (R := fun res xw => res = pt b42 0 ∧ OW b42 (((([] : List UInt8) ++ putL c) ++ putL r) ++ putL (l.length : Int)) (0 + 9 + 9 + 9) xw ∧ But (Rw w59 b42) w59 xw) rfl rfl rfl (by kernel_rfl) (by kernel_rfl) (Try.call13 _ _) (ow_num b42 ((([] : List UInt8) ++ putL c) ++ putL r) (0 + 9 + 9) (l.length : Int) w59 ho60 (by omega) (by omega) (by omega)) (by rintro e x ⟨rfl, h1, h2⟩; exact ⟨_, rfl, rfl, h1, h2⟩)) ?_ ?_
  ·
   rintro _ w67 ⟨rfl, ho68, hx69⟩;have hz70 := hx69.size;have hl71 := ho68.lt;have hB72 := hb_wr hB64 ho60 (by omega) hx69;have hk73 := blk_wr hk65 ho60 (by decide) (by omega) hx69;exact ⟨hB72, hk73⟩
  rintro _ w67 a66 ⟨rfl, ho68, hx69⟩ s;have hz70 := hx69.size;have hl71 := ho68.lt;have hB72 := hb_wr hB64 ho60 (by omega) hx69;have hk73 := blk_wr hk65 ho60 (by decide) (by omega) hx69;refine dk0 11 (v := pt b42 0) s rfl rfl ⟨hB72, hk73⟩ fun _ s => ?_;refine dr_done (by kernel_rfl) ?_;refine co_then <| q9 ?_;refine pk0 (v := pt N3 2) s rfl fun _ s => ?_;refine pk (v := v) s rfl (rn_load1 rfl rfl Try.isAgg27 (hk73.cell rfl)) fun _ s => ?_;refine pk (v := .int .i64 (l.length : Int)) s rfl (rn_len rfl rfl Try.underlying27 (hs.below hB72)) fun _ s => ?_;refine pk0 (v := .int .i64 0) s rfl fun _ s => q1 <| wp_block ?_;have hck := chkB_all (c := c) (r := r) (l := l) (by omega);have s : Slots 46 [(1, pt N3 0), (2, .string (⟨#[]⟩)), (3, .int .i64 0), (5, pt b42 0), (25, v), (26, .int .i64 (l.length : Int)), (27, .int .i64 0)] _ := s.sub ⟨rfl, rfl, rfl, rfl, rfl, rfl, rfl, trivial⟩;refine co_loop (fun mm a x => ∃ (i : Nat), Slots 46 [(1, pt N3 0), (2, .string (⟨#[]⟩)), (3, .int .i64 0), (5, pt b42 0), (25, v), (26, .int .i64 (l.length : Int)), (27, .int .i64 (i : Int))] a ∧ mm = l.length - i ∧ (i ≤ l.length) ∧ OW b42 (putH c r l ++ putOs (l.take i)) (27 + i * 35) x ∧ Below w.heap.size w x ∧ Blk x N3 29 #[.int .i64 c, .int .i64 r, v]) (l.length - 0) ?_ ?_
  · exact ⟨0, s.sub ⟨rfl, rfl, rfl, rfl, rfl, rfl, (slot_eq rfl (congrArg (Value.int .i64) (by first | rfl | omega))), trivial⟩, rfl, by omega, (ho68.eq (by first | (simp [putH, putOs]; done) | (rw [takeO_at (by assumption)]; simp [putH, putOs, putO1])) (by first | omega | (simp; done) | (simp; omega))), hB72, hk73⟩
  · rintro k80 a81 w82 ⟨i, s, rfl, hi83, hf84, hB85, hk86⟩
    have hz87 := hB85.size;have hl88 := hk86.lt;have hl89 := hf84.lt;refine q2 ?_;refine pk0 (v := .bool (decide ((i : Int) < (l.length : Int)))) s rfl fun _ s => q1 <| co_seq ?_;cases hc91 : (decide ((i : Int) < (l.length : Int)))
    ·
     rw [hc91] at s;have hp92 : ¬ ((i : Int) < (l.length : Int)) := of_decide_eq_false hc91;refine co_false s rfl <| wp_exit <| co_thenX <| co_thenX <| qx <| q2 ?_;refine pk0 (v := pt b42 0) s rfl fun _ s => ?_;refine pw s rfl (op_call (args := #[pt b42 0]) (R := fun res xw => res = .tuple #[.string (⟨(putH c r l ++ putOs (l.take i)).toArray⟩), .int .i64 0] ∧ Below w82.heap.size w82 xw) rfl rfl rfl (by kernel_rfl) (by kernel_rfl) (Try.call16 _ _) (ow_done b42 (putH c r l ++ putOs (l.take i)) (27 + i * 35) w82 hf84) (by rintro e x ⟨rfl, h2⟩; exact ⟨_, rfl, rfl, h2⟩)) ?_;rintro _ w95 a94 ⟨rfl, hb96⟩ s;have hz97 := hb96.size;refine pk0 (v := .string (⟨(putH c r l ++ putOs (l.take i)).toArray⟩)) s rfl fun _ s => ?_;refine pk0 (v := .int .i64 0) s rfl fun _ s => ?_;refine pk0 (v := .string (⟨(putH c r l ++ putOs (l.take i)).toArray⟩)) s rfl fun _ s => ?_;refine pk0 (v := .int .i64 0) s rfl fun _ s => q4 ?_;refine co_ret2 s rfl rfl rfl ?_;have hB102 := hb_call hB85 hb96;exact ⟨by rw [putB_ok (by omega), show chkB c r l = 0 by omega, List.take_of_length_le (show l.length ≤ i by omega)], hB102⟩
    rw [hc91] at s;have hp103 : (i : Int) < (l.length : Int) := of_decide_eq_true hc91;refine co_true s rfl <| q0 <| co_seq <| wp_block <| q2 ?_;obtain ⟨y104, hy104⟩ : ∃ z, l[i]? = some z := ⟨_, List.getElem?_eq_getElem (by first | omega | (simp; done) | (simp; omega))⟩;have oky104 := hck _ (List.mem_of_getElem? hy104);have k105 : y104.1.size ≤ 8 := oky104.1.2;have k106 : y104.2.1.size ≤ 8 := oky104.2.1;refine pk (v := pt (blkOf v) (offOf v + i * 3)) s rfl (rn_index rfl rfl rfl Try.underlying27 Try.sizeOf115 (hs.below hB85) (by omega) (by first | omega | (simp; done) | (simp; omega))) fun _ s => ?_;refine pk (v := .agg #[.string y104.1, .string y104.2.1, .bool y104.2.2]) s rfl (rn_loadN rfl rfl Try.underlying115 rfl (by kernel_rfl) (sl_at (hs.below hB85) hy104)) fun _ s => ?_;refine pw s rfl (op_new (v := fun N => pt N 0) (T := 115) (cs := #[.string (⟨#[]⟩), .string (⟨#[]⟩), .bool false]) (by kernel_rfl) (by kernel_rfl) (by kernel_rfl)) ?_;rintro _ w110 a109 ⟨N111, rfl, hN114, hz115, hk113, hg112⟩ s;have hz116 := hg112.size
    try dsimp only at s
    refine pwD s rfl (op_storeN rfl rfl rfl (by kernel_rfl) (by kernel_rfl) hk113 rfl) ?_;rintro _ w118 a117 ⟨hk119, hz120, hg121⟩ s;have hk119' : Blk w118 N111 115 #[.string y104.1, .string y104.2.1, .bool y104.2.2] := hk119;have hz122 := hg121.size;refine q1 ?_;refine dr_gen (fun x => Below w.heap.size w x ∧ Blk x N111 115 #[.string y104.1, .string y104.2.1, .bool y104.2.2]) (by kernel_rfl) (fun w123 hg124 => ?_) (fun w123 hg124 => ?_)
    ·
     have hz125 := hg124.size;have hB126 := hb_new hB85 hg112;have hB127 := hb_at hB126 hg121 (by omega);have hB128 := hb_new hB127 hg124;have hk129 := hk119'.kept hg124 (by simp);exact ⟨hB128, hk129⟩
    have hz130 := hg124.size;have hB131 := hb_new hB85 hg112;have hB132 := hb_at hB131 hg121 (by omega);have hB133 := hb_new hB132 hg124;have hk134 := hk119'.kept hg124 (by simp);refine dk0 0 (v := pt b42 0) s rfl rfl ⟨hB133, hk134⟩ fun _ s => ?_;refine dk0 1 (v := pt N111 0) s rfl rfl ⟨hB133, hk134⟩ fun _ s => ?_;refine dk 2 (v := .string y104.1) s rfl rfl ⟨hB133, hk134⟩ (fun x hx => (rn_load1 rfl rfl Try.isAgg9 (hx.2.cell rfl))) fun _ s => ?_;refine dk0 4 (v := pt N111 2) s rfl rfl ⟨hB133, hk134⟩ fun _ s => ?_;refine dk 5 (v := .bool y104.2.2) s rfl rfl ⟨hB133, hk134⟩ (fun x hx => (rn_load1 rfl rfl Try.isAgg4 (hx.2.cell rfl))) fun _ s => ?_;refine dk0 7 (v := pt N111 1) s rfl rfl ⟨hB133, hk134⟩ fun _ s => ?_;refine dk 8 (v := .string y104.2.1) s rfl rfl ⟨hB133, hk134⟩ (fun x hx => (rn_load1 rfl rfl Try.isAgg9 (hx.2.cell rfl))) fun _ s => ?_;have ho146 := hf84.new hg112;have ho147 := ho146.at hk113 (by decide) (by omega) hg121;have ho148 := ho147.new hg124;refine d1 3 s rfl rfl (op_call (args := #[pt b42 0, .string y104.1]) (R := fun res xw => res = pt b42 0 ∧ OW b42 ((putH c r l ++ putOs (l.take i)) ++ (putL (y104.1.size : Int) ++ y104.1.data.toList)) (27 + i * 35 + (9 + y104.1.size)) xw ∧ But (Rw w123 b42) w123 xw) rfl rfl rfl (by kernel_rfl) (by kernel_rfl) (Try.call37 _ _) (ow_text b42 (putH c r l ++ putOs (l.take i)) (27 + i * 35) y104.1 w123 ho148 (by first | omega | (simp; done) | (simp; omega))) (by rintro e x ⟨rfl, h1, h2⟩; exact ⟨_, rfl, rfl, h1, h2⟩)) ?_ ?_
    ·
     rintro _ w143 ⟨rfl, ho144, hx145⟩;have hz149 := hx145.size;have hl150 := ho144.lt;have hB151 := hb_wr hB133 ho148 (by omega) hx145;have hk152 := blk_wr hk134 ho148 (by decide) (by omega) hx145;exact ⟨hB151, hk152⟩
    rintro _ w143 a142 ⟨rfl, ho144, hx145⟩ s;have hz149 := hx145.size;have hl150 := ho144.lt;have hB151 := hb_wr hB133 ho148 (by omega) hx145;have hk152 := blk_wr hk134 ho148 (by decide) (by omega) hx145;refine d1 6 s rfl rfl (op_call (args := #[pt b42 0, .bool y104.2.2]) (R := fun res xw => res = pt b42 0 ∧ OW b42 (((putH c r l ++ putOs (l.take i)) ++ (putL (y104.1.size : Int) ++ y104.1.data.toList)) ++ [flagB y104.2.2]) (27 + i * 35 + (9 + y104.1.size) + 1) xw ∧ But (Rw w143 b42) w143 xw) rfl rfl rfl (by kernel_rfl) (by kernel_rfl) (Try.call34 _ _) (ow_flag b42 ((putH c r l ++ putOs (l.take i)) ++ (putL (y104.1.size : Int) ++ y104.1.data.toList)) (27 + i * 35 + (9 + y104.1.size)) y104.2.2 w143 ho144 (by omega)) (by rintro e x ⟨rfl, h1, h2⟩; exact ⟨_, rfl, rfl, h1, h2⟩)) ?_ ?_
    ·
     rintro _ w154 ⟨rfl, ho155, hx156⟩;have hz157 := hx156.size;have hl158 := ho155.lt;have hB159 := hb_wr hB151 ho144 (by omega) hx156;have hk160 := blk_wr hk152 ho144 (by decide) (by omega) hx156;exact ⟨hB159, hk160⟩
    rintro _ w154 a153 ⟨rfl, ho155, hx156⟩ s;have hz157 := hx156.size;have hl158 := ho155.lt;have hB159 := hb_wr hB151 ho144 (by omega) hx156;have hk160 := blk_wr hk152 ho144 (by decide) (by omega) hx156;refine d1 9 s rfl rfl (op_call (args := #[pt b42 0, .string y104.2.1]) (R := fun res xw => res = pt b42 0 ∧ OW b42 ((((putH c r l ++ putOs (l.take i)) ++ (putL (y104.1.size : Int) ++ y104.1.data.toList)) ++ [flagB y104.2.2]) ++ (putL (y104.2.1.size : Int) ++ y104.2.1.data.toList)) (27 + i * 35 + (9 + y104.1.size) + 1 + (9 + y104.2.1.size)) xw ∧ But (Rw w154 b42) w154 xw) rfl rfl rfl (by kernel_rfl) (by kernel_rfl) (Try.call37 _ _) (ow_text b42 (((putH c r l ++ putOs (l.take i)) ++ (putL (y104.1.size : Int) ++ y104.1.data.toList)) ++ [flagB y104.2.2]) (27 + i * 35 + (9 + y104.1.size) + 1) y104.2.1 w154 ho155 (by first | omega | (simp; done) | (simp; omega))) (by rintro e x ⟨rfl, h1, h2⟩; exact ⟨_, rfl, rfl, h1, h2⟩)) ?_ ?_
    ·
     rintro _ w162 ⟨rfl, ho163, hx164⟩;have hz165 := hx164.size;have hl166 := ho163.lt;have hB167 := hb_wr hB159 ho155 (by omega) hx164;have hk168 := blk_wr hk160 ho155 (by decide) (by omega) hx164;exact ⟨hB167, hk168⟩
    rintro _ w162 a161 ⟨rfl, ho163, hx164⟩ s;have hz165 := hx164.size;have hl166 := ho163.lt;refine dr_done (by kernel_rfl) ?_;refine co_blockN <| co_then <| co_reg ?_;refine pk (v := .int .i64 ((i + 1 : Nat) : Int)) s rfl (rn_arith' rfl rfl rfl rfl rfl rfl (IntWalk.i64_in _ (by omega)) (by omega)) fun _ s => ?_;refine pk0 (v := .int .i64 ((i + 1 : Nat) : Int)) s rfl fun _ s => q1 ?_;refine ⟨(l.length - (i + 1)), by omega, ?_⟩;have hB169 := hb_wr hB159 ho155 (by omega) hx164;have hk170 := hk86.kept hg112 (by simp);have hk171 := hk170.kept hg121 (by simp; omega);have hk172 := hk171.kept hg124 (by simp);have hk173 := blk_wr hk172 ho148 (by decide) (by omega) hx145;have hk174 := blk_wr hk173 ho144 (by decide) (by omega) hx156;have hk175 := blk_wr hk174 ho155 (by decide) (by omega) hx164;exact ⟨i + 1, s.sub ⟨rfl, rfl, rfl, rfl, rfl, rfl, rfl, trivial⟩, rfl, by omega, (ho163.eq (by first | (simp [putH, putOs]; done) | (rw [takeO_at (by assumption)]; simp [putH, putOs, putO1])) (by first | omega | (simp; done) | (simp; omega))), hB169, hk175⟩
 rw [hc20] at s;have hp176 : chkB c r l ≠ 0 := by first | simpa using hc20 | simpa [and_assoc] using hc20
 refine co_true s rfl <| q2 ?_;refine pk0 (v := .int .i64 (chkB c r l)) s rfl fun _ s => ?_;refine pk0 (v := .string (⟨#[]⟩)) s rfl fun _ s => ?_;refine pk0 (v := .int .i64 (chkB c r l)) s rfl fun _ s => q5 ?_;refine co_ret2 s rfl rfl rfl ?_;exact ⟨by rw [putB_err (by assumption)], hB21⟩
end Go.Proofs.Ytcbagajjgbfgdaa

/- Package ops: Of of both. Conditions: none. -/
namespace Go.Proofs.Ytcbagajjgbfgdaa
open Go.RowKit Go.PlainAid
set_option linter.unusedVariables false


/-- What Of reads: one operation more, n of them; a batch. -/
def rdStep (s : ByteArray) (q : List OpT × Int × Int) : List OpT × Int × Int :=
  let t := textR s q.2.1 q.2.2 8
  let f := flagR s t.2.1.toNat t.2.2
  let u := textR s f.2.1 f.2.2 8
  (q.1 ++ [(t.1, u.1, f.1)], u.2.1, u.2.2)
def rdN (s : ByteArray) : Nat → List OpT × Int × Int → List OpT × Int × Int
  | 0, q => q
  | n + 1, q => rdStep s (rdN s n q)
theorem rdN_step {s : ByteArray} {i : Nat} {q0 : List OpT × Int × Int} {l : List OpT} {a e a1 e1 a2 e2 a3 e3 : Int} {k t : ByteArray} {f : Bool} (h : rdN s i q0 = (l, a, e)) (h1 : textR s a e 8 = (k, a1, e1)) (h2 : flagR s a1.toNat e1 = (f, a2, e2)) (h3 : textR s a2 e2 8 = (t, a3, e3)) :
    rdN s (i + 1) q0 = (l ++ [(k, t, f)], a3, e3) := by
  show rdStep s (rdN s i q0) = _
  rw [h]; simp only [rdStep, h1, h2, h3]
def ofEnd (c r : Int) (l : List OpT) (x : Int) : (Int × Int × List OpT) × Int :=
  if x ≠ 0 then ((0, 0, []), x) else if chkB c r l ≠ 0 then ((0, 0, []), chkB c r l) else ((c, r, l), 0)
def ofB (s : ByteArray) : (Int × Int × List OpT) × Int :=
  let c := numR s 0 0 2
  let r := numR s c.2.1 c.2.2 1073741824
  let n := numR s r.2.1 r.2.2 4
  let q := rdN s n.1.toNat ([], n.2.1, n.2.2)
  ofEnd c.1 r.1 q.1 (endV s q.2.1.toNat q.2.2)
theorem ofB_at {s : ByteArray} {c r n x a1 e1 a2 e2 a3 e3 a4 e4 : Int} {l : List OpT} {i : Nat} (h1 : numR s 0 0 2 = (c, a1, e1)) (h2 : numR s a1 e1 1073741824 = (r, a2, e2)) (h3 : numR s a2 e2 4 = (n, a3, e3)) (h4 : rdN s i ([], a3, e3) = (l, a4, e4)) (hi : i = n.toNat) (h5 : endV s a4.toNat e4 = x) : ofB s = ofEnd c r l x := by
  subst hi; simp only [ofB, h1, h2, h3, h4, h5]
theorem ofEnd_a {c r x : Int} {l : List OpT} (h : x ≠ 0) : ofEnd c r l x = ((0, 0, []), x) := by unfold ofEnd; rw [if_pos h]
theorem ofEnd_b {c r x : Int} {l : List OpT} (h : ¬ x ≠ 0) (h1 : chkB c r l ≠ 0) : ofEnd c r l x = ((0, 0, []), chkB c r l) := by unfold ofEnd; rw [if_neg h, if_pos h1]
theorem ofEnd_c {c r x : Int} {l : List OpT} (h : ¬ x ≠ 0) (h1 : ¬ chkB c r l ≠ 0) : ofEnd c r l x = ((c, r, l), 0) := by unfold ofEnd; rw [if_neg h, if_neg h1]

set_option maxRecDepth 100000 in
theorem opsOf_any (s : ByteArray) (c : Int) (r : Int) (l : List OpT) (x : Int) (w : World) (hsz : s.size ≤ 9223372036854775807) (hof : ofB s = ((c, r, l), x)) :
    Calls Try.prog 52 #[.string s] w fun e w' => ∃ (u : Value), e = .returned (.tuple #[.agg #[.int .i64 c, .int .i64 r, u], .int .i64 x]) ∧ w'.ownsRow w.heap.size 115 3 u l.length (l.flatMap opE) ∧ Below w.heap.size w w' := by
 have hB0 := Below.refl w.heap.size w;refine co_enter (n := 45) Try.func52 rfl rfl rfl [(0, .string s)] rfl (fun a g => ?_);refine q2 ?_;refine pw g rfl (op_new (v := fun N => pt N 0) (T := 29) (cs := #[.int .i64 0, .int .i64 0, .slice none 0 0]) (by kernel_rfl) (by kernel_rfl) (by kernel_rfl)) ?_;rintro _ w2 a1 ⟨N3, rfl, hN6, hz7, hk5, hg4⟩ g;have hz8 := hg4.size
 try dsimp only at g
 refine pk0 (v := .int .i64 0) g rfl fun _ g => q3 ?_;refine pk0 (v := .string s) g rfl fun _ g => ?_;refine pw g rfl (op_call (args := #[.string s]) (R := fun res xw => ∃ b : Nat, res = pt b 0 ∧ b = w2.heap.size ∧ OR b s 0 0 xw ∧ Below w2.heap.size w2 xw) rfl rfl rfl (by kernel_rfl) (by kernel_rfl) (Try.call17 _ _) (or_open s w2) (by rintro e x ⟨b, rfl, h0, h1, h2⟩; exact ⟨_, rfl, b, rfl, h0, h1, h2⟩)) ?_;rintro _ w12 a11 ⟨b13, rfl, hN14, ho15, hb16⟩ g;have hz17 := hb16.size;have hl18 := ho15.lt;refine pk0 (v := pt b13 0) g rfl fun _ g => q3 ?_;refine pk0 (v := pt b13 0) g rfl fun _ g => ?_;refine pw g rfl (op_call (args := #[pt b13 0, .int .i64 2]) (R := fun res xw => ∃ (n : Int) (a' e' : Int), res = .int .i64 n ∧ numR s 0 0 2 = (n, a', e') ∧ 0 ≤ n ∧ n ≤ 2 ∧ OR b13 s a' e' xw ∧ w12.grownBy xw (some b13)) rfl rfl rfl (by kernel_rfl) (by kernel_rfl) (Try.call18 _ _) (or_num b13 s 0 0 2 w12 ho15 (by omega) (by omega) (by omega)) (by rintro q x ⟨n, a', e', rfl, h0, k0, k1, h1, h2⟩; exact ⟨_, rfl, n, a', e', rfl, h0, k0, k1, h1, h2⟩)) ?_;rintro _ w22 a21 ⟨n23, a24, e25, rfl, hq26, hn27, hm28, ho29, hg30⟩ g;have hz31 := hg30.size;have hl32 := ho29.lt;refine pk0 (v := pt b13 0) g rfl fun _ g => ?_;refine pw g rfl (op_call (args := #[pt b13 0, .int .i64 1073741824]) (R := fun res xw => ∃ (n : Int) (a' e' : Int), res = .int .i64 n ∧ numR s a24 e25 1073741824 = (n, a', e') ∧ 0 ≤ n ∧ n ≤ 1073741824 ∧ OR b13 s a' e' xw ∧ w22.grownBy xw (some b13)) rfl rfl rfl (by kernel_rfl) (by kernel_rfl) (Try.call18 _ _) (or_num b13 s a24 e25 1073741824 w22 ho29 (by omega) (by omega) (by omega)) (by rintro q x ⟨n, a', e', rfl, h0, k0, k1, h1, h2⟩; exact ⟨_, rfl, n, a', e', rfl, h0, k0, k1, h1, h2⟩)) ?_;rintro _ w35 a34 ⟨n36, a37, e38, rfl, hq39, hn40, hm41, ho42, hg43⟩ g;have hz44 := hg43.size;have hl45 := ho42.lt;refine pk0 (v := .agg #[.int .i64 n23, .int .i64 n36, .slice none 0 0]) g rfl fun _ g => ?_;refine pw g rfl (op_new (v := fun N => pt N 0) (T := 29) (cs := #[.int .i64 0, .int .i64 0, .slice none 0 0]) (by kernel_rfl) (by kernel_rfl) (by kernel_rfl)) ?_;rintro _ w48 a47 ⟨N49, rfl, hN52, hz53, hk51, hg50⟩ g;have hz54 := hg50.size
 try dsimp only at g
 refine pwD g rfl (op_storeN rfl rfl rfl (all_cons rfl (all_cons rfl (all_cons rfl all_nil))) (by kernel_rfl) hk51 rfl) ?_;rintro _ w56 a55 ⟨hk57, hz58, hg59⟩ g;have hk57' : Blk w56 N49 29 #[.int .i64 n23, .int .i64 n36, .slice none 0 0] := hk57;have hz60 := hg59.size;refine q6 ?_;refine pk0 (v := pt b13 0) g rfl fun _ g => ?_;have ho72 := ho42.new hg50;have ho73 := ho72.at (by omega) hg59;refine pw g rfl (op_call (args := #[pt b13 0, .int .i64 4]) (R := fun res xw => ∃ (n : Int) (a' e' : Int), res = .int .i64 n ∧ numR s a37 e38 4 = (n, a', e') ∧ 0 ≤ n ∧ n ≤ 4 ∧ OR b13 s a' e' xw ∧ w56.grownBy xw (some b13)) rfl rfl rfl (by kernel_rfl) (by kernel_rfl) (Try.call18 _ _) (or_num b13 s a37 e38 4 w56 ho73 (by omega) (by omega) (by omega)) (by rintro q x ⟨n, a', e', rfl, h0, k0, k1, h1, h2⟩; exact ⟨_, rfl, n, a', e', rfl, h0, k0, k1, h1, h2⟩)) ?_;rintro _ w63 a62 ⟨n64, a65, e66, rfl, hq67, hn68, hm69, ho70, hg71⟩ g;have hz74 := hg71.size;have hl75 := ho70.lt;refine pk0 (v := .int .i64 0) g rfl fun _ g => q1 <| wp_block ?_;have g : Slots 45 [(2, pt N3 0), (3, .int .i64 0), (4, pt b13 0), (5, pt N49 0), (16, .int .i64 n64), (17, .int .i64 0)] _ := g.sub ⟨rfl, rfl, rfl, rfl, rfl, rfl, trivial⟩;refine co_loop (fun mm a x => ∃ (i : Nat) (u : Value) (ls : List OpT) (ps : Int) (er : Int), Slots 45 [(2, pt N3 0), (3, .int .i64 0), (4, pt b13 0), (5, pt N49 0), (16, .int .i64 n64), (17, .int .i64 (i : Int))] a ∧ mm = n64.toNat - i ∧ ((i : Int) ≤ n64) ∧ (ls.length = i) ∧ (rdN s i ([], a65, e66) = (ls, ps, er)) ∧ Blk x N49 29 #[.int .i64 n23, .int .i64 n36, u] ∧ OR b13 s ps er x ∧ x.ownsRow (N49 + 1) 115 3 u ls.length (ls.flatMap opE) ∧ Below w.heap.size w x ∧ Blk x N3 29 #[.int .i64 0, .int .i64 0, .slice none 0 0]) (n64.toNat - 0) ?_ ?_;have hk78 := hk57'.kept hg71 (by simp; omega);have hB79 := hb_new hB0 hg4;have hB80 := hb_call hB79 hb16;have hB81 := hb_at hB80 hg30 (by omega);have hB82 := hb_at hB81 hg43 (by omega);have hB83 := hb_new hB82 hg50;have hB84 := hb_at hB83 hg59 (by omega);have hB85 := hb_at hB84 hg71 (by omega);have hk86 := hk5.below hb16;have hk87 := hk86.kept hg30 (by simp; omega);have hk88 := hk87.kept hg43 (by simp; omega);have hk89 := hk88.kept hg50 (by simp);have hk90 := hk89.kept hg59 (by simp; omega);have hk91 := hk90.kept hg71 (by simp; omega)
 · exact ⟨0, (.slice none 0 0), [], a65, e66, g.sub ⟨rfl, rfl, rfl, rfl, rfl, (slot_eq rfl (congrArg (Value.int .i64) (by first | rfl | omega))), trivial⟩, rfl, by omega, by first | rfl | (simp; omega), by first | rfl | exact hR', hk78, ho70, (row_nilL _ _ _ _ _), hB85, hk91⟩
 · rintro k92 a93 w94 ⟨i, u, ls, ps, er, g, rfl, hi95, hi96, hi97, hf98, hf99, hf100, hB101, hk102⟩
   have hz103 := hB101.size;have hl104 := hk102.lt;have hl105 := hf98.lt;have hl106 := hf99.lt;have hR : rdN s i ([], a65, e66) = (ls, ps, er) := by assumption
   refine q2 ?_;refine pk0 (v := .bool (decide ((i : Int) < n64))) g rfl fun _ g => q1 <| co_seq ?_;cases hc108 : (decide ((i : Int) < n64))
   ·
    rw [hc108] at g;have hp109 : ¬ ((i : Int) < n64) := of_decide_eq_false hc108;refine co_false g rfl <| wp_exit <| co_thenX <| co_thenX <| qx <| q9 ?_;refine pk0 (v := pt b13 0) g rfl fun _ g => ?_;refine pw g rfl (op_call (args := #[pt b13 0]) (R := fun res xw => ∃ r : Int, res = .int .i64 r ∧ endV s ps.toNat er = r ∧ Below w94.heap.size w94 xw) rfl rfl rfl (by kernel_rfl) (by kernel_rfl) (Try.call22 _ _) (or_end b13 s ps er w94 hf99 (by omega)) (by rintro e x ⟨r, rfl, h0, h2⟩; exact ⟨_, rfl, r, rfl, h0, h2⟩)) ?_;rintro _ w112 a111 ⟨r113, rfl, hq114, hb115⟩ g;have hz116 := hb115.size;refine pk0 (v := .int .i64 r113) g rfl fun _ g => q3 ?_;refine pk0 (v := .int .i64 r113) g rfl fun _ g => ?_;refine pk0 (v := .bool (r113 != 0)) g rfl fun _ g => q1 ?_;have hB121 := hb_call hB101 hb115;cases hc120 : (r113 != 0)
    ·
     rw [hc120] at g;have hp122 : ¬ (r113 ≠ 0) := by first | simpa using hc120 | simpa [and_assoc] using hc120
     refine co_false g rfl <| q8 ?_;have hk123 := hf98.below hb115;refine pk (v := .agg #[.int .i64 n23, .int .i64 n36, u]) g rfl (rn_loadN rfl rfl Try.underlying29 rfl (by kernel_rfl) hk123.all) fun _ g => ?_;have hr127 := row_kept_new hf100 (below_grown hb115);refine pw g rfl (op_call (args := #[.agg #[.int .i64 n23, .int .i64 n36, u]]) (R := fun res xw => res = .int .i64 (chkB n23 n36 ls) ∧ Below w112.heap.size w112 xw) rfl rfl rfl (by kernel_rfl) (by kernel_rfl) (Try.call59 _ _) (opsCheck_any n23 n36 u ls w112 (row_sl hr127 opE_len)) (by rintro e x ⟨rfl, hb128⟩; exact ⟨_, rfl, ⟨rfl, hb128⟩⟩)) ?_;rintro _ w126 a125 ⟨rfl, hb128⟩ g;have hz129 := hb128.size;refine pk0 (v := .int .i64 (chkB n23 n36 ls)) g rfl fun _ g => q3 ?_;refine pk0 (v := .int .i64 (chkB n23 n36 ls)) g rfl fun _ g => ?_;refine pk0 (v := .bool (chkB n23 n36 ls != 0)) g rfl fun _ g => q1 ?_;have hB134 := hb_call hB121 hb128;have hk135 := hk102.below hb115;have hk136 := hk135.below hb128;have ho137 := hf99.below hb115;have ho138 := ho137.below hb128;cases hc133 : (chkB n23 n36 ls != 0)
     ·
      rw [hc133] at g;have hp139 : ¬ (chkB n23 n36 ls ≠ 0) := by first | simpa using hc133 | simpa [and_assoc] using hc133
      refine co_false g rfl <| q7 ?_;have hk140 := hk123.below hb128;refine pk (v := .agg #[.int .i64 n23, .int .i64 n36, u]) g rfl (rn_loadN rfl rfl Try.underlying29 rfl (by kernel_rfl) hk140.all) fun _ g => ?_;have hr147 := row_kept_new hr127 (below_grown hb128);refine pwD g rfl (op_storeN rfl rfl rfl (all_cons rfl (all_cons rfl (all_cons (row_one hr147) all_nil))) (by kernel_rfl) hk136 rfl) ?_;rintro _ w143 a142 ⟨hk144, hz145, hg146⟩ g;have hk144' : Blk w143 N3 29 #[.int .i64 n23, .int .i64 n36, u] := hk144;have hz148 := hg146.size;refine pk0 (v := .int .i64 0) g rfl fun _ g => q4 ?_;refine co_retC1 (Q := fun _ _ _ => True) g rfl rfl rfl hk144' Try.underlying29 rfl (by kernel_rfl) ?_;have hr150 := row_kept_at hr147 hg146 (row_ne_lt hr147 (by omega));have hB151 := hb_at hB134 hg146 (by omega);cases hof.symm.trans ((ofB_at hq26 hq39 hq67 hR (by omega) hq114).trans (ofEnd_c (by assumption) (by assumption)));exact ⟨_, rfl, (row_lows hr150 (by omega)), hB151⟩
     rw [hc133] at g;have hp152 : chkB n23 n36 ls ≠ 0 := by first | simpa using hc133 | simpa [and_assoc] using hc133
     refine co_true g rfl <| q2 ?_;refine pk0 (v := .agg #[.int .i64 0, .int .i64 0, .slice none 0 0]) g rfl fun _ g => ?_;refine pk0 (v := .int .i64 (chkB n23 n36 ls)) g rfl fun _ g => ?_;refine pwD g rfl (op_storeN rfl rfl rfl (all_cons rfl (all_cons rfl (all_cons rfl all_nil))) (by kernel_rfl) hk136 rfl) ?_;rintro _ w156 a155 ⟨hk157, hz158, hg159⟩ g;have hk157' : Blk w156 N3 29 #[.int .i64 0, .int .i64 0, .slice none 0 0] := hk157;have hz160 := hg159.size;refine pk0 (v := .int .i64 (chkB n23 n36 ls)) g rfl fun _ g => q5 ?_;refine co_retC1 (Q := fun _ _ _ => True) g rfl rfl rfl hk157' Try.underlying29 rfl (by kernel_rfl) ?_;have hB162 := hb_at hB134 hg159 (by omega);cases hof.symm.trans ((ofB_at hq26 hq39 hq67 hR (by omega) hq114).trans (ofEnd_b (by assumption) (by assumption)));exact ⟨_, rfl, (row_nilL _ _ _ _ _), hB162⟩
    rw [hc120] at g;have hp163 : r113 ≠ 0 := by first | simpa using hc120 | simpa [and_assoc] using hc120
    refine co_true g rfl <| q2 ?_;refine pk0 (v := .agg #[.int .i64 0, .int .i64 0, .slice none 0 0]) g rfl fun _ g => ?_;refine pk0 (v := .int .i64 r113) g rfl fun _ g => ?_;have hk171 := hk102.below hb115;refine pwD g rfl (op_storeN rfl rfl rfl (all_cons rfl (all_cons rfl (all_cons rfl all_nil))) (by kernel_rfl) hk171 rfl) ?_;rintro _ w167 a166 ⟨hk168, hz169, hg170⟩ g;have hk168' : Blk w167 N3 29 #[.int .i64 0, .int .i64 0, .slice none 0 0] := hk168;have hz172 := hg170.size;refine pk0 (v := .int .i64 r113) g rfl fun _ g => q5 ?_;refine co_retC1 (Q := fun _ _ _ => True) g rfl rfl rfl hk168' Try.underlying29 rfl (by kernel_rfl) ?_;have hB174 := hb_at hB121 hg170 (by omega);cases hof.symm.trans ((ofB_at hq26 hq39 hq67 hR (by omega) hq114).trans (ofEnd_a (by assumption)));exact ⟨_, rfl, (row_nilL _ _ _ _ _), hB174⟩
   rw [hc108] at g;have hp175 : (i : Int) < n64 := of_decide_eq_true hc108;refine co_true g rfl <| q0 <| co_seq <| wp_block ?_;refine dr_gen (fun x => Below w.heap.size w x) (by kernel_rfl) (fun w176 hg177 => ?_) (fun w176 hg177 => ?_)
   ·
    have hz178 := hg177.size;have hB179 := hb_new hB101 hg177;exact hB179
   have hz180 := hg177.size;have hB181 := hb_new hB101 hg177;refine dk0 0 (v := pt N49 2) g rfl rfl hB181 fun _ g => ?_;refine dk0 2 (v := pt b13 0) g rfl rfl hB181 fun _ g => ?_;refine dk0 4 (v := pt b13 0) g rfl rfl hB181 fun _ g => ?_;refine dk0 6 (v := pt b13 0) g rfl rfl hB181 fun _ g => ?_;refine dr_many [1, 3] (by kernel_rfl) (by simp) ⟨?_, ?_, trivial⟩
   ·
    have hk186 := hf98.kept hg177 (by simp);refine dr_opVal (i := 1) (v := u) g rfl rfl rfl rfl (by kernel_rfl) rfl (rn_load1 rfl rfl Try.isAgg27 (hk186.cell rfl)) hB181 (fun _ g => ?_);have ho198 := hf99.new hg177;refine d1 3 g rfl rfl (op_call (args := #[pt b13 0, .int .i64 8]) (R := fun res xw => ∃ (n : ByteArray) (a' e' : Int), res = .string n ∧ textR s ps er 8 = (n, a', e') ∧ (n.size : Int) ≤ 8 ∧ OR b13 s a' e' xw ∧ w176.grownBy xw (some b13)) rfl rfl rfl (by kernel_rfl) (by kernel_rfl) (Try.call48 _ _) (or_text b13 s ps er 8 w176 ho198 (by omega) (by omega) (by omega)) (by rintro q x ⟨n, a', e', rfl, h0, k0, h1, h2⟩; exact ⟨_, rfl, n, a', e', rfl, h0, k0, h1, h2⟩)) ?_ ?_
    ·
     rintro _ w189 ⟨n190, a191, e192, rfl, hq193, hn194, ho196, hg197⟩;have hz199 := hg197.size;have hl200 := ho196.lt;have hB201 := hb_at hB181 hg197 (by omega);exact hB201
    rintro _ w189 a188 ⟨n190, a191, e192, rfl, hq193, hn194, ho196, hg197⟩ g;have hz199 := hg197.size;have hl200 := ho196.lt;have hB201 := hb_at hB181 hg197 (by omega);refine d1 5 g rfl rfl (op_call (args := #[pt b13 0]) (R := fun res xw => ∃ (n : Bool) (a' e' : Int), res = .bool n ∧ flagR s a191.toNat e192 = (n, a', e') ∧ OR b13 s a' e' xw ∧ w189.grownBy xw (some b13)) rfl rfl rfl (by kernel_rfl) (by kernel_rfl) (Try.call46 _ _) (or_flag b13 s a191 e192 w189 ho196 (by omega)) (by rintro q x ⟨n, a', e', rfl, h0, h1, h2⟩; exact ⟨_, rfl, n, a', e', rfl, h0, h1, h2⟩)) ?_ ?_
    ·
     rintro _ w203 ⟨n204, a205, e206, rfl, hq207, ho210, hg211⟩;have hz212 := hg211.size;have hl213 := ho210.lt;have hB214 := hb_at hB201 hg211 (by omega);exact hB214
    rintro _ w203 a202 ⟨n204, a205, e206, rfl, hq207, ho210, hg211⟩ g;have hz212 := hg211.size;have hl213 := ho210.lt;have hB214 := hb_at hB201 hg211 (by omega);refine d1 7 g rfl rfl (op_call (args := #[pt b13 0, .int .i64 8]) (R := fun res xw => ∃ (n : ByteArray) (a' e' : Int), res = .string n ∧ textR s a205 e206 8 = (n, a', e') ∧ (n.size : Int) ≤ 8 ∧ OR b13 s a' e' xw ∧ w203.grownBy xw (some b13)) rfl rfl rfl (by kernel_rfl) (by kernel_rfl) (Try.call48 _ _) (or_text b13 s a205 e206 8 w203 ho210 (by omega) (by omega) (by omega)) (by rintro q x ⟨n, a', e', rfl, h0, k0, h1, h2⟩; exact ⟨_, rfl, n, a', e', rfl, h0, k0, h1, h2⟩)) ?_ ?_
    ·
     rintro _ w216 ⟨n217, a218, e219, rfl, hq220, hn221, ho223, hg224⟩;have hz225 := hg224.size;have hl226 := ho223.lt;have hB227 := hb_at hB214 hg224 (by omega);exact hB227
    rintro _ w216 a215 ⟨n217, a218, e219, rfl, hq220, hn221, ho223, hg224⟩ g;have hz225 := hg224.size;have hl226 := ho223.lt;have hB227 := hb_at hB214 hg224 (by omega);refine dk0 8 (v := .agg #[.string n190, .string n217, .bool n204]) g rfl rfl hB227 fun _ g => ?_;refine d1 9 g rfl rfl (op_new (v := fun N => .slice (some ⟨N, 0, none⟩) 1 1) (T := 115) (cs := #[.string n190, .string n217, .bool n204]) (by kernel_rfl) (by kernel_rfl) (by kernel_rfl)) ?_ ?_
    ·
     rintro _ w230 ⟨N231, rfl, hN234, hz235, hk233, hg232⟩;have hr237 := row_kept_new hf100 hg177;have hr238 := row_kept_at hr237 hg197 (row_ne_lt hr237 (by omega));have hr239 := row_kept_at hr238 hg211 (row_ne_lt hr238 (by omega));have hr240 := row_kept_at hr239 hg224 (row_ne_lt hr239 (by omega));have ha236 := row_fresh hr240 hN234;have hz241 := hg232.size;have hB242 := hb_new hB227 hg232;exact hB242
    rintro _ w230 a229 ⟨N231, rfl, hN234, hz235, hk233, hg232⟩ g;have hr237 := row_kept_new hf100 hg177;have hr238 := row_kept_at hr237 hg197 (row_ne_lt hr237 (by omega));have hr239 := row_kept_at hr238 hg211 (row_ne_lt hr238 (by omega));have hr240 := row_kept_at hr239 hg224 (row_ne_lt hr239 (by omega));have ha236 := row_fresh hr240 hN234;have hz241 := hg232.size
    try dsimp only at g
    have hB242 := hb_new hB227 hg232;have hr248 := row_kept_new hr240 hg232;refine d1 10 g rfl rfl (op_append rfl (N49 + 1) 115 (z := .agg #[.string (⟨#[]⟩), .string (⟨#[]⟩), .bool false]) (size := 3) (bytes := 40) Try.underlying27 (by kernel_rfl) rfl rfl rfl hr248 rfl hk233 rfl (by kernel_rfl) (by first | omega | (simp only [List.length_nil, List.length_append, List.length_cons, List.length_take, List.length_drop]; omega)) (by first | omega | (simp only [List.length_nil, List.length_append, List.length_cons, List.length_take, List.length_drop]; omega)) (by omega)) ?_ ?_
    ·
     rintro v245 w244 ⟨hr246, hg247⟩;have hr246' : w244.ownsRow (N49 + 1) 115 3 v245 ((ls ++ [(n190, n217, n204)]).length) ((ls ++ [(n190, n217, n204)]).flatMap opE) := row_push (y := (n190, n217, n204)) hr246 rfl rfl;have hz249 := hg247.size;have hB250 := hb_row hB242 hr248 (by omega) hg247;exact hB250
    rintro v245 w244 a243 ⟨hr246, hg247⟩ g;have hr246' : w244.ownsRow (N49 + 1) 115 3 v245 ((ls ++ [(n190, n217, n204)]).length) ((ls ++ [(n190, n217, n204)]).flatMap opE) := row_push (y := (n190, n217, n204)) hr246 rfl rfl;have hz249 := hg247.size;have hB250 := hb_row hB242 hr248 (by omega) hg247;refine dk0 11 (v := pt N49 2) g rfl rfl hB250 fun _ g => ?_;have hk257 := hk186.kept hg197 (by simp; omega);have hk258 := hk257.kept hg211 (by simp; omega);have hk259 := hk258.kept hg224 (by simp; omega);have hk260 := hk259.kept hg232 (by simp);have hk261 := hk260.kept hg247 (row_ne_lt hr248 (by omega));refine d1D 12 g rfl rfl (op_store1 rfl rfl rfl (row_one hr246') Try.sizeOf27 hk261 rfl) ?_ ?_
    ·
     rintro _ w253 ⟨hk254, hz255, hg256⟩;have hk254' : Blk w253 N49 29 #[.int .i64 n23, .int .i64 n36, v245] := hk254;have hz262 := hg256.size;have hB263 := hb_at hB250 hg256 (by omega);exact hB263
    rintro _ w253 a252 ⟨hk254, hz255, hg256⟩ g;have hk254' : Blk w253 N49 29 #[.int .i64 n23, .int .i64 n36, v245] := hk254;have hz262 := hg256.size;refine dr_done (by kernel_rfl) ?_;refine co_blockN <| co_then <| co_reg ?_;refine pk (v := .int .i64 ((i + 1 : Nat) : Int)) g rfl (rn_arith' rfl rfl rfl rfl rfl rfl (IntWalk.i64_in _ (by omega)) (by omega)) fun _ g => ?_;refine pk0 (v := .int .i64 ((i + 1 : Nat) : Int)) g rfl fun _ g => q1 ?_;refine ⟨(n64.toNat - (i + 1)), by omega, ?_⟩;have hR' := rdN_step hR hq193 hq207 hq220;have ho265 := ho223.new hg232;have ho266 := ho265.row (row_ne_lt hr248 (by omega)) hg247;have ho267 := ho266.at (by omega) hg256;have hr268 := row_kept_at hr246' hg256 (row_ne_lt hr246' (by omega));have hB269 := hb_at hB250 hg256 (by omega);have hk270 := hk102.kept hg177 (by simp);have hk271 := hk270.kept hg197 (by simp; omega);have hk272 := hk271.kept hg211 (by simp; omega);have hk273 := hk272.kept hg224 (by simp; omega);have hk274 := hk273.kept hg232 (by simp);have hk275 := hk274.kept hg247 (row_ne_lt hr248 (by omega));have hk276 := hk275.kept hg256 (by simp; omega);exact ⟨i + 1, v245, ls ++ [(n190, n217, n204)], a218, e219, g.sub ⟨rfl, rfl, rfl, rfl, rfl, rfl, trivial⟩, rfl, by omega, by first | rfl | (simp; omega), by first | rfl | exact hR', hk254', ho267, (row_eq hr268 (rfl)), hB269, hk276⟩
   have ho287 := hf99.new hg177;refine dr_op (i := 3) g rfl rfl rfl rfl (op_call (args := #[pt b13 0, .int .i64 8]) (R := fun res xw => ∃ (n : ByteArray) (a' e' : Int), res = .string n ∧ textR s ps er 8 = (n, a', e') ∧ (n.size : Int) ≤ 8 ∧ OR b13 s a' e' xw ∧ w176.grownBy xw (some b13)) rfl rfl rfl (by kernel_rfl) (by kernel_rfl) (Try.call48 _ _) (or_text b13 s ps er 8 w176 ho287 (by omega) (by omega) (by omega)) (by rintro q x ⟨n, a', e', rfl, h0, k0, h1, h2⟩; exact ⟨_, rfl, n, a', e', rfl, h0, k0, h1, h2⟩)) ?_ ?_
   ·
    rintro _ w278 ⟨n279, a280, e281, rfl, hq282, hn283, ho285, hg286⟩;have hz288 := hg286.size;have hl289 := ho285.lt;have hB290 := hb_at hB181 hg286 (by omega);exact hB290
   rintro _ w278 a277 ⟨n279, a280, e281, rfl, hq282, hn283, ho285, hg286⟩ g;have hz288 := hg286.size;have hl289 := ho285.lt;have hB290 := hb_at hB181 hg286 (by omega);refine dr_many [1, 5] (by kernel_rfl) (by simp) ⟨?_, ?_, trivial⟩
   ·
    have hk291 := hf98.kept hg177 (by simp);have hk292 := hk291.kept hg286 (by simp; omega);refine dr_opVal (i := 1) (v := u) g rfl rfl rfl rfl (by kernel_rfl) rfl (rn_load1 rfl rfl Try.isAgg27 (hk292.cell rfl)) hB290 (fun _ g => ?_);refine d1 5 g rfl rfl (op_call (args := #[pt b13 0]) (R := fun res xw => ∃ (n : Bool) (a' e' : Int), res = .bool n ∧ flagR s a280.toNat e281 = (n, a', e') ∧ OR b13 s a' e' xw ∧ w278.grownBy xw (some b13)) rfl rfl rfl (by kernel_rfl) (by kernel_rfl) (Try.call46 _ _) (or_flag b13 s a280 e281 w278 ho285 (by omega)) (by rintro q x ⟨n, a', e', rfl, h0, h1, h2⟩; exact ⟨_, rfl, n, a', e', rfl, h0, h1, h2⟩)) ?_ ?_
    ·
     rintro _ w295 ⟨n296, a297, e298, rfl, hq299, ho302, hg303⟩;have hz304 := hg303.size;have hl305 := ho302.lt;have hB306 := hb_at hB290 hg303 (by omega);exact hB306
    rintro _ w295 a294 ⟨n296, a297, e298, rfl, hq299, ho302, hg303⟩ g;have hz304 := hg303.size;have hl305 := ho302.lt;have hB306 := hb_at hB290 hg303 (by omega);refine d1 7 g rfl rfl (op_call (args := #[pt b13 0, .int .i64 8]) (R := fun res xw => ∃ (n : ByteArray) (a' e' : Int), res = .string n ∧ textR s a297 e298 8 = (n, a', e') ∧ (n.size : Int) ≤ 8 ∧ OR b13 s a' e' xw ∧ w295.grownBy xw (some b13)) rfl rfl rfl (by kernel_rfl) (by kernel_rfl) (Try.call48 _ _) (or_text b13 s a297 e298 8 w295 ho302 (by omega) (by omega) (by omega)) (by rintro q x ⟨n, a', e', rfl, h0, k0, h1, h2⟩; exact ⟨_, rfl, n, a', e', rfl, h0, k0, h1, h2⟩)) ?_ ?_
    ·
     rintro _ w308 ⟨n309, a310, e311, rfl, hq312, hn313, ho315, hg316⟩;have hz317 := hg316.size;have hl318 := ho315.lt;have hB319 := hb_at hB306 hg316 (by omega);exact hB319
    rintro _ w308 a307 ⟨n309, a310, e311, rfl, hq312, hn313, ho315, hg316⟩ g;have hz317 := hg316.size;have hl318 := ho315.lt;have hB319 := hb_at hB306 hg316 (by omega);refine dk0 8 (v := .agg #[.string n279, .string n309, .bool n296]) g rfl rfl hB319 fun _ g => ?_;refine d1 9 g rfl rfl (op_new (v := fun N => .slice (some ⟨N, 0, none⟩) 1 1) (T := 115) (cs := #[.string n279, .string n309, .bool n296]) (by kernel_rfl) (by kernel_rfl) (by kernel_rfl)) ?_ ?_
    ·
     rintro _ w322 ⟨N323, rfl, hN326, hz327, hk325, hg324⟩;have hr329 := row_kept_new hf100 hg177;have hr330 := row_kept_at hr329 hg286 (row_ne_lt hr329 (by omega));have hr331 := row_kept_at hr330 hg303 (row_ne_lt hr330 (by omega));have hr332 := row_kept_at hr331 hg316 (row_ne_lt hr331 (by omega));have ha328 := row_fresh hr332 hN326;have hz333 := hg324.size;have hB334 := hb_new hB319 hg324;exact hB334
    rintro _ w322 a321 ⟨N323, rfl, hN326, hz327, hk325, hg324⟩ g;have hr329 := row_kept_new hf100 hg177;have hr330 := row_kept_at hr329 hg286 (row_ne_lt hr329 (by omega));have hr331 := row_kept_at hr330 hg303 (row_ne_lt hr330 (by omega));have hr332 := row_kept_at hr331 hg316 (row_ne_lt hr331 (by omega));have ha328 := row_fresh hr332 hN326;have hz333 := hg324.size
    try dsimp only at g
    have hB334 := hb_new hB319 hg324;have hr340 := row_kept_new hr332 hg324;refine d1 10 g rfl rfl (op_append rfl (N49 + 1) 115 (z := .agg #[.string (⟨#[]⟩), .string (⟨#[]⟩), .bool false]) (size := 3) (bytes := 40) Try.underlying27 (by kernel_rfl) rfl rfl rfl hr340 rfl hk325 rfl (by kernel_rfl) (by first | omega | (simp only [List.length_nil, List.length_append, List.length_cons, List.length_take, List.length_drop]; omega)) (by first | omega | (simp only [List.length_nil, List.length_append, List.length_cons, List.length_take, List.length_drop]; omega)) (by omega)) ?_ ?_
    ·
     rintro v337 w336 ⟨hr338, hg339⟩;have hr338' : w336.ownsRow (N49 + 1) 115 3 v337 ((ls ++ [(n279, n309, n296)]).length) ((ls ++ [(n279, n309, n296)]).flatMap opE) := row_push (y := (n279, n309, n296)) hr338 rfl rfl;have hz341 := hg339.size;have hB342 := hb_row hB334 hr340 (by omega) hg339;exact hB342
    rintro v337 w336 a335 ⟨hr338, hg339⟩ g;have hr338' : w336.ownsRow (N49 + 1) 115 3 v337 ((ls ++ [(n279, n309, n296)]).length) ((ls ++ [(n279, n309, n296)]).flatMap opE) := row_push (y := (n279, n309, n296)) hr338 rfl rfl;have hz341 := hg339.size;have hB342 := hb_row hB334 hr340 (by omega) hg339;refine dk0 11 (v := pt N49 2) g rfl rfl hB342 fun _ g => ?_;have hk349 := hk292.kept hg303 (by simp; omega);have hk350 := hk349.kept hg316 (by simp; omega);have hk351 := hk350.kept hg324 (by simp);have hk352 := hk351.kept hg339 (row_ne_lt hr340 (by omega));refine d1D 12 g rfl rfl (op_store1 rfl rfl rfl (row_one hr338') Try.sizeOf27 hk352 rfl) ?_ ?_
    ·
     rintro _ w345 ⟨hk346, hz347, hg348⟩;have hk346' : Blk w345 N49 29 #[.int .i64 n23, .int .i64 n36, v337] := hk346;have hz353 := hg348.size;have hB354 := hb_at hB342 hg348 (by omega);exact hB354
    rintro _ w345 a344 ⟨hk346, hz347, hg348⟩ g;have hk346' : Blk w345 N49 29 #[.int .i64 n23, .int .i64 n36, v337] := hk346;have hz353 := hg348.size;refine dr_done (by kernel_rfl) ?_;refine co_blockN <| co_then <| co_reg ?_;refine pk (v := .int .i64 ((i + 1 : Nat) : Int)) g rfl (rn_arith' rfl rfl rfl rfl rfl rfl (IntWalk.i64_in _ (by omega)) (by omega)) fun _ g => ?_;refine pk0 (v := .int .i64 ((i + 1 : Nat) : Int)) g rfl fun _ g => q1 ?_;refine ⟨(n64.toNat - (i + 1)), by omega, ?_⟩;have hR' := rdN_step hR hq282 hq299 hq312;have ho356 := ho315.new hg324;have ho357 := ho356.row (row_ne_lt hr340 (by omega)) hg339;have ho358 := ho357.at (by omega) hg348;have hr359 := row_kept_at hr338' hg348 (row_ne_lt hr338' (by omega));have hB360 := hb_at hB342 hg348 (by omega);have hk361 := hk102.kept hg177 (by simp);have hk362 := hk361.kept hg286 (by simp; omega);have hk363 := hk362.kept hg303 (by simp; omega);have hk364 := hk363.kept hg316 (by simp; omega);have hk365 := hk364.kept hg324 (by simp);have hk366 := hk365.kept hg339 (row_ne_lt hr340 (by omega));have hk367 := hk366.kept hg348 (by simp; omega);exact ⟨i + 1, v337, ls ++ [(n279, n309, n296)], a310, e311, g.sub ⟨rfl, rfl, rfl, rfl, rfl, rfl, trivial⟩, rfl, by omega, by first | rfl | (simp; omega), by first | rfl | exact hR', hk346', ho358, (row_eq hr359 (rfl)), hB360, hk367⟩
   refine dr_op (i := 5) g rfl rfl rfl rfl (op_call (args := #[pt b13 0]) (R := fun res xw => ∃ (n : Bool) (a' e' : Int), res = .bool n ∧ flagR s a280.toNat e281 = (n, a', e') ∧ OR b13 s a' e' xw ∧ w278.grownBy xw (some b13)) rfl rfl rfl (by kernel_rfl) (by kernel_rfl) (Try.call46 _ _) (or_flag b13 s a280 e281 w278 ho285 (by omega)) (by rintro q x ⟨n, a', e', rfl, h0, h1, h2⟩; exact ⟨_, rfl, n, a', e', rfl, h0, h1, h2⟩)) ?_ ?_
   ·
    rintro _ w369 ⟨n370, a371, e372, rfl, hq373, ho376, hg377⟩;have hz378 := hg377.size;have hl379 := ho376.lt;have hB380 := hb_at hB290 hg377 (by omega);exact hB380
   rintro _ w369 a368 ⟨n370, a371, e372, rfl, hq373, ho376, hg377⟩ g;have hz378 := hg377.size;have hl379 := ho376.lt;have hB380 := hb_at hB290 hg377 (by omega);refine dr_many [1, 7] (by kernel_rfl) (by simp) ⟨?_, ?_, trivial⟩
   ·
    have hk381 := hf98.kept hg177 (by simp);have hk382 := hk381.kept hg286 (by simp; omega);have hk383 := hk382.kept hg377 (by simp; omega);refine dr_opVal (i := 1) (v := u) g rfl rfl rfl rfl (by kernel_rfl) rfl (rn_load1 rfl rfl Try.isAgg27 (hk383.cell rfl)) hB380 (fun _ g => ?_);refine d1 7 g rfl rfl (op_call (args := #[pt b13 0, .int .i64 8]) (R := fun res xw => ∃ (n : ByteArray) (a' e' : Int), res = .string n ∧ textR s a371 e372 8 = (n, a', e') ∧ (n.size : Int) ≤ 8 ∧ OR b13 s a' e' xw ∧ w369.grownBy xw (some b13)) rfl rfl rfl (by kernel_rfl) (by kernel_rfl) (Try.call48 _ _) (or_text b13 s a371 e372 8 w369 ho376 (by omega) (by omega) (by omega)) (by rintro q x ⟨n, a', e', rfl, h0, k0, h1, h2⟩; exact ⟨_, rfl, n, a', e', rfl, h0, k0, h1, h2⟩)) ?_ ?_
    ·
     rintro _ w386 ⟨n387, a388, e389, rfl, hq390, hn391, ho393, hg394⟩;have hz395 := hg394.size;have hl396 := ho393.lt;have hB397 := hb_at hB380 hg394 (by omega);exact hB397
    rintro _ w386 a385 ⟨n387, a388, e389, rfl, hq390, hn391, ho393, hg394⟩ g;have hz395 := hg394.size;have hl396 := ho393.lt;have hB397 := hb_at hB380 hg394 (by omega);refine dk0 8 (v := .agg #[.string n279, .string n387, .bool n370]) g rfl rfl hB397 fun _ g => ?_;refine d1 9 g rfl rfl (op_new (v := fun N => .slice (some ⟨N, 0, none⟩) 1 1) (T := 115) (cs := #[.string n279, .string n387, .bool n370]) (by kernel_rfl) (by kernel_rfl) (by kernel_rfl)) ?_ ?_
    ·
     rintro _ w400 ⟨N401, rfl, hN404, hz405, hk403, hg402⟩;have hr407 := row_kept_new hf100 hg177;have hr408 := row_kept_at hr407 hg286 (row_ne_lt hr407 (by omega));have hr409 := row_kept_at hr408 hg377 (row_ne_lt hr408 (by omega));have hr410 := row_kept_at hr409 hg394 (row_ne_lt hr409 (by omega));have ha406 := row_fresh hr410 hN404;have hz411 := hg402.size;have hB412 := hb_new hB397 hg402;exact hB412
    rintro _ w400 a399 ⟨N401, rfl, hN404, hz405, hk403, hg402⟩ g;have hr407 := row_kept_new hf100 hg177;have hr408 := row_kept_at hr407 hg286 (row_ne_lt hr407 (by omega));have hr409 := row_kept_at hr408 hg377 (row_ne_lt hr408 (by omega));have hr410 := row_kept_at hr409 hg394 (row_ne_lt hr409 (by omega));have ha406 := row_fresh hr410 hN404;have hz411 := hg402.size
    try dsimp only at g
    have hB412 := hb_new hB397 hg402;have hr418 := row_kept_new hr410 hg402;refine d1 10 g rfl rfl (op_append rfl (N49 + 1) 115 (z := .agg #[.string (⟨#[]⟩), .string (⟨#[]⟩), .bool false]) (size := 3) (bytes := 40) Try.underlying27 (by kernel_rfl) rfl rfl rfl hr418 rfl hk403 rfl (by kernel_rfl) (by first | omega | (simp only [List.length_nil, List.length_append, List.length_cons, List.length_take, List.length_drop]; omega)) (by first | omega | (simp only [List.length_nil, List.length_append, List.length_cons, List.length_take, List.length_drop]; omega)) (by omega)) ?_ ?_
    ·
     rintro v415 w414 ⟨hr416, hg417⟩;have hr416' : w414.ownsRow (N49 + 1) 115 3 v415 ((ls ++ [(n279, n387, n370)]).length) ((ls ++ [(n279, n387, n370)]).flatMap opE) := row_push (y := (n279, n387, n370)) hr416 rfl rfl;have hz419 := hg417.size;have hB420 := hb_row hB412 hr418 (by omega) hg417;exact hB420
    rintro v415 w414 a413 ⟨hr416, hg417⟩ g;have hr416' : w414.ownsRow (N49 + 1) 115 3 v415 ((ls ++ [(n279, n387, n370)]).length) ((ls ++ [(n279, n387, n370)]).flatMap opE) := row_push (y := (n279, n387, n370)) hr416 rfl rfl;have hz419 := hg417.size;have hB420 := hb_row hB412 hr418 (by omega) hg417;refine dk0 11 (v := pt N49 2) g rfl rfl hB420 fun _ g => ?_;have hk427 := hk383.kept hg394 (by simp; omega);have hk428 := hk427.kept hg402 (by simp);have hk429 := hk428.kept hg417 (row_ne_lt hr418 (by omega));refine d1D 12 g rfl rfl (op_store1 rfl rfl rfl (row_one hr416') Try.sizeOf27 hk429 rfl) ?_ ?_
    ·
     rintro _ w423 ⟨hk424, hz425, hg426⟩;have hk424' : Blk w423 N49 29 #[.int .i64 n23, .int .i64 n36, v415] := hk424;have hz430 := hg426.size;have hB431 := hb_at hB420 hg426 (by omega);exact hB431
    rintro _ w423 a422 ⟨hk424, hz425, hg426⟩ g;have hk424' : Blk w423 N49 29 #[.int .i64 n23, .int .i64 n36, v415] := hk424;have hz430 := hg426.size;refine dr_done (by kernel_rfl) ?_;refine co_blockN <| co_then <| co_reg ?_;refine pk (v := .int .i64 ((i + 1 : Nat) : Int)) g rfl (rn_arith' rfl rfl rfl rfl rfl rfl (IntWalk.i64_in _ (by omega)) (by omega)) fun _ g => ?_;refine pk0 (v := .int .i64 ((i + 1 : Nat) : Int)) g rfl fun _ g => q1 ?_;refine ⟨(n64.toNat - (i + 1)), by omega, ?_⟩;have hR' := rdN_step hR hq282 hq373 hq390;have ho433 := ho393.new hg402;have ho434 := ho433.row (row_ne_lt hr418 (by omega)) hg417;have ho435 := ho434.at (by omega) hg426;have hr436 := row_kept_at hr416' hg426 (row_ne_lt hr416' (by omega));have hB437 := hb_at hB420 hg426 (by omega);have hk438 := hk102.kept hg177 (by simp);have hk439 := hk438.kept hg286 (by simp; omega);have hk440 := hk439.kept hg377 (by simp; omega);have hk441 := hk440.kept hg394 (by simp; omega);have hk442 := hk441.kept hg402 (by simp);have hk443 := hk442.kept hg417 (row_ne_lt hr418 (by omega));have hk444 := hk443.kept hg426 (by simp; omega);exact ⟨i + 1, v415, ls ++ [(n279, n387, n370)], a388, e389, g.sub ⟨rfl, rfl, rfl, rfl, rfl, rfl, trivial⟩, rfl, by omega, by first | rfl | (simp; omega), by first | rfl | exact hR', hk424', ho435, (row_eq hr436 (rfl)), hB437, hk444⟩
   refine dr_op (i := 7) g rfl rfl rfl rfl (op_call (args := #[pt b13 0, .int .i64 8]) (R := fun res xw => ∃ (n : ByteArray) (a' e' : Int), res = .string n ∧ textR s a371 e372 8 = (n, a', e') ∧ (n.size : Int) ≤ 8 ∧ OR b13 s a' e' xw ∧ w369.grownBy xw (some b13)) rfl rfl rfl (by kernel_rfl) (by kernel_rfl) (Try.call48 _ _) (or_text b13 s a371 e372 8 w369 ho376 (by omega) (by omega) (by omega)) (by rintro q x ⟨n, a', e', rfl, h0, k0, h1, h2⟩; exact ⟨_, rfl, n, a', e', rfl, h0, k0, h1, h2⟩)) ?_ ?_
   ·
    rintro _ w446 ⟨n447, a448, e449, rfl, hq450, hn451, ho453, hg454⟩;have hz455 := hg454.size;have hl456 := ho453.lt;have hB457 := hb_at hB380 hg454 (by omega);exact hB457
   rintro _ w446 a445 ⟨n447, a448, e449, rfl, hq450, hn451, ho453, hg454⟩ g;have hz455 := hg454.size;have hl456 := ho453.lt;have hB457 := hb_at hB380 hg454 (by omega);refine dk0 8 (v := .agg #[.string n279, .string n447, .bool n370]) g rfl rfl hB457 fun _ g => ?_;refine dr_many [1, 9] (by kernel_rfl) (by simp) ⟨?_, ?_, trivial⟩
   ·
    have hk459 := hf98.kept hg177 (by simp);have hk460 := hk459.kept hg286 (by simp; omega);have hk461 := hk460.kept hg377 (by simp; omega);have hk462 := hk461.kept hg454 (by simp; omega);refine dr_opVal (i := 1) (v := u) g rfl rfl rfl rfl (by kernel_rfl) rfl (rn_load1 rfl rfl Try.isAgg27 (hk462.cell rfl)) hB457 (fun _ g => ?_);refine d1 9 g rfl rfl (op_new (v := fun N => .slice (some ⟨N, 0, none⟩) 1 1) (T := 115) (cs := #[.string n279, .string n447, .bool n370]) (by kernel_rfl) (by kernel_rfl) (by kernel_rfl)) ?_ ?_
    ·
     rintro _ w465 ⟨N466, rfl, hN469, hz470, hk468, hg467⟩;have hr472 := row_kept_new hf100 hg177;have hr473 := row_kept_at hr472 hg286 (row_ne_lt hr472 (by omega));have hr474 := row_kept_at hr473 hg377 (row_ne_lt hr473 (by omega));have hr475 := row_kept_at hr474 hg454 (row_ne_lt hr474 (by omega));have ha471 := row_fresh hr475 hN469;have hz476 := hg467.size;have hB477 := hb_new hB457 hg467;exact hB477
    rintro _ w465 a464 ⟨N466, rfl, hN469, hz470, hk468, hg467⟩ g;have hr472 := row_kept_new hf100 hg177;have hr473 := row_kept_at hr472 hg286 (row_ne_lt hr472 (by omega));have hr474 := row_kept_at hr473 hg377 (row_ne_lt hr473 (by omega));have hr475 := row_kept_at hr474 hg454 (row_ne_lt hr474 (by omega));have ha471 := row_fresh hr475 hN469;have hz476 := hg467.size
    try dsimp only at g
    have hB477 := hb_new hB457 hg467;have hr483 := row_kept_new hr475 hg467;refine d1 10 g rfl rfl (op_append rfl (N49 + 1) 115 (z := .agg #[.string (⟨#[]⟩), .string (⟨#[]⟩), .bool false]) (size := 3) (bytes := 40) Try.underlying27 (by kernel_rfl) rfl rfl rfl hr483 rfl hk468 rfl (by kernel_rfl) (by first | omega | (simp only [List.length_nil, List.length_append, List.length_cons, List.length_take, List.length_drop]; omega)) (by first | omega | (simp only [List.length_nil, List.length_append, List.length_cons, List.length_take, List.length_drop]; omega)) (by omega)) ?_ ?_
    ·
     rintro v480 w479 ⟨hr481, hg482⟩;have hr481' : w479.ownsRow (N49 + 1) 115 3 v480 ((ls ++ [(n279, n447, n370)]).length) ((ls ++ [(n279, n447, n370)]).flatMap opE) := row_push (y := (n279, n447, n370)) hr481 rfl rfl;have hz484 := hg482.size;have hB485 := hb_row hB477 hr483 (by omega) hg482;exact hB485
    rintro v480 w479 a478 ⟨hr481, hg482⟩ g;have hr481' : w479.ownsRow (N49 + 1) 115 3 v480 ((ls ++ [(n279, n447, n370)]).length) ((ls ++ [(n279, n447, n370)]).flatMap opE) := row_push (y := (n279, n447, n370)) hr481 rfl rfl;have hz484 := hg482.size;have hB485 := hb_row hB477 hr483 (by omega) hg482;refine dk0 11 (v := pt N49 2) g rfl rfl hB485 fun _ g => ?_;have hk492 := hk462.kept hg467 (by simp);have hk493 := hk492.kept hg482 (row_ne_lt hr483 (by omega));refine d1D 12 g rfl rfl (op_store1 rfl rfl rfl (row_one hr481') Try.sizeOf27 hk493 rfl) ?_ ?_
    ·
     rintro _ w488 ⟨hk489, hz490, hg491⟩;have hk489' : Blk w488 N49 29 #[.int .i64 n23, .int .i64 n36, v480] := hk489;have hz494 := hg491.size;have hB495 := hb_at hB485 hg491 (by omega);exact hB495
    rintro _ w488 a487 ⟨hk489, hz490, hg491⟩ g;have hk489' : Blk w488 N49 29 #[.int .i64 n23, .int .i64 n36, v480] := hk489;have hz494 := hg491.size;refine dr_done (by kernel_rfl) ?_;refine co_blockN <| co_then <| co_reg ?_;refine pk (v := .int .i64 ((i + 1 : Nat) : Int)) g rfl (rn_arith' rfl rfl rfl rfl rfl rfl (IntWalk.i64_in _ (by omega)) (by omega)) fun _ g => ?_;refine pk0 (v := .int .i64 ((i + 1 : Nat) : Int)) g rfl fun _ g => q1 ?_;refine ⟨(n64.toNat - (i + 1)), by omega, ?_⟩;have hR' := rdN_step hR hq282 hq373 hq450;have ho497 := ho453.new hg467;have ho498 := ho497.row (row_ne_lt hr483 (by omega)) hg482;have ho499 := ho498.at (by omega) hg491;have hr500 := row_kept_at hr481' hg491 (row_ne_lt hr481' (by omega));have hB501 := hb_at hB485 hg491 (by omega);have hk502 := hk102.kept hg177 (by simp);have hk503 := hk502.kept hg286 (by simp; omega);have hk504 := hk503.kept hg377 (by simp; omega);have hk505 := hk504.kept hg454 (by simp; omega);have hk506 := hk505.kept hg467 (by simp);have hk507 := hk506.kept hg482 (row_ne_lt hr483 (by omega));have hk508 := hk507.kept hg491 (by simp; omega);exact ⟨i + 1, v480, ls ++ [(n279, n447, n370)], a448, e449, g.sub ⟨rfl, rfl, rfl, rfl, rfl, rfl, trivial⟩, rfl, by omega, by first | rfl | (simp; omega), by first | rfl | exact hR', hk489', ho499, (row_eq hr500 (rfl)), hB501, hk508⟩
   refine dr_op (i := 9) g rfl rfl rfl rfl (op_new (v := fun N => .slice (some ⟨N, 0, none⟩) 1 1) (T := 115) (cs := #[.string n279, .string n447, .bool n370]) (by kernel_rfl) (by kernel_rfl) (by kernel_rfl)) ?_ ?_
   ·
    rintro _ w510 ⟨N511, rfl, hN514, hz515, hk513, hg512⟩;have hr517 := row_kept_new hf100 hg177;have hr518 := row_kept_at hr517 hg286 (row_ne_lt hr517 (by omega));have hr519 := row_kept_at hr518 hg377 (row_ne_lt hr518 (by omega));have hr520 := row_kept_at hr519 hg454 (row_ne_lt hr519 (by omega));have ha516 := row_fresh hr520 hN514;have hz521 := hg512.size;have hB522 := hb_new hB457 hg512;exact hB522
   rintro _ w510 a509 ⟨N511, rfl, hN514, hz515, hk513, hg512⟩ g;have hr517 := row_kept_new hf100 hg177;have hr518 := row_kept_at hr517 hg286 (row_ne_lt hr517 (by omega));have hr519 := row_kept_at hr518 hg377 (row_ne_lt hr518 (by omega));have hr520 := row_kept_at hr519 hg454 (row_ne_lt hr519 (by omega));have ha516 := row_fresh hr520 hN514;have hz521 := hg512.size
   try dsimp only at g
   have hB522 := hb_new hB457 hg512;refine dr_many [1] (by kernel_rfl) (by simp) ⟨?_, trivial⟩;have hk523 := hf98.kept hg177 (by simp);have hk524 := hk523.kept hg286 (by simp; omega);have hk525 := hk524.kept hg377 (by simp; omega);have hk526 := hk525.kept hg454 (by simp; omega);have hk527 := hk526.kept hg512 (by simp);refine dr_opVal (i := 1) (v := u) g rfl rfl rfl rfl (by kernel_rfl) rfl (rn_load1 rfl rfl Try.isAgg27 (hk527.cell rfl)) hB522 (fun _ g => ?_);have hr534 := row_kept_new hr520 hg512;refine d1 10 g rfl rfl (op_append rfl (N49 + 1) 115 (z := .agg #[.string (⟨#[]⟩), .string (⟨#[]⟩), .bool false]) (size := 3) (bytes := 40) Try.underlying27 (by kernel_rfl) rfl rfl rfl hr534 rfl hk513 rfl (by kernel_rfl) (by first | omega | (simp only [List.length_nil, List.length_append, List.length_cons, List.length_take, List.length_drop]; omega)) (by first | omega | (simp only [List.length_nil, List.length_append, List.length_cons, List.length_take, List.length_drop]; omega)) (by omega)) ?_ ?_
   ·
    rintro v531 w530 ⟨hr532, hg533⟩;have hr532' : w530.ownsRow (N49 + 1) 115 3 v531 ((ls ++ [(n279, n447, n370)]).length) ((ls ++ [(n279, n447, n370)]).flatMap opE) := row_push (y := (n279, n447, n370)) hr532 rfl rfl;have hz535 := hg533.size;have hB536 := hb_row hB522 hr534 (by omega) hg533;exact hB536
   rintro v531 w530 a529 ⟨hr532, hg533⟩ g;have hr532' : w530.ownsRow (N49 + 1) 115 3 v531 ((ls ++ [(n279, n447, n370)]).length) ((ls ++ [(n279, n447, n370)]).flatMap opE) := row_push (y := (n279, n447, n370)) hr532 rfl rfl;have hz535 := hg533.size;have hB536 := hb_row hB522 hr534 (by omega) hg533;refine dk0 11 (v := pt N49 2) g rfl rfl hB536 fun _ g => ?_;have hk543 := hk527.kept hg533 (row_ne_lt hr534 (by omega));refine d1D 12 g rfl rfl (op_store1 rfl rfl rfl (row_one hr532') Try.sizeOf27 hk543 rfl) ?_ ?_
   ·
    rintro _ w539 ⟨hk540, hz541, hg542⟩;have hk540' : Blk w539 N49 29 #[.int .i64 n23, .int .i64 n36, v531] := hk540;have hz544 := hg542.size;have hB545 := hb_at hB536 hg542 (by omega);exact hB545
   rintro _ w539 a538 ⟨hk540, hz541, hg542⟩ g;have hk540' : Blk w539 N49 29 #[.int .i64 n23, .int .i64 n36, v531] := hk540;have hz544 := hg542.size;refine dr_done (by kernel_rfl) ?_;refine co_blockN <| co_then <| co_reg ?_;refine pk (v := .int .i64 ((i + 1 : Nat) : Int)) g rfl (rn_arith' rfl rfl rfl rfl rfl rfl (IntWalk.i64_in _ (by omega)) (by omega)) fun _ g => ?_;refine pk0 (v := .int .i64 ((i + 1 : Nat) : Int)) g rfl fun _ g => q1 ?_;refine ⟨(n64.toNat - (i + 1)), by omega, ?_⟩;have hR' := rdN_step hR hq282 hq373 hq450;have ho547 := ho453.new hg512;have ho548 := ho547.row (row_ne_lt hr534 (by omega)) hg533;have ho549 := ho548.at (by omega) hg542;have hr550 := row_kept_at hr532' hg542 (row_ne_lt hr532' (by omega));have hB551 := hb_at hB536 hg542 (by omega);have hk552 := hk102.kept hg177 (by simp);have hk553 := hk552.kept hg286 (by simp; omega);have hk554 := hk553.kept hg377 (by simp; omega);have hk555 := hk554.kept hg454 (by simp; omega);have hk556 := hk555.kept hg512 (by simp);have hk557 := hk556.kept hg533 (row_ne_lt hr534 (by omega));have hk558 := hk557.kept hg542 (by simp; omega);exact ⟨i + 1, v531, ls ++ [(n279, n447, n370)], a448, e449, g.sub ⟨rfl, rfl, rfl, rfl, rfl, rfl, trivial⟩, rfl, by omega, by first | rfl | (simp; omega), by first | rfl | exact hR', hk540', ho549, (row_eq hr550 (rfl)), hB551, hk558⟩
end Go.Proofs.Ytcbagajjgbfgdaa

/- Readers: big numbers, the error so far. Conditions: none. -/
namespace Go.Proofs.Ytcbagajjgbfgdaa
open Go.RowKit Go.PlainAid
set_option linter.unusedVariables false
section
variable {w x : World} {b N : Nat} {s : ByteArray} {a e : Int}
theorem getR_lt (s : ByteArray) (a : Int) : (getR s a).1 < 18446744073709551616 := by
  unfold getR
  have hb2 := bt_le s a.toNat
  split
  · decide
  split
  · decide
  split
  · show bt s a.toNat < _; omega
  split
  · decide
  split
  · show val s (a.toNat + 1) (bt s a.toNat - 247).toNat < _
    have h1 := val_lt s (a.toNat + 1) (bt s a.toNat - 247).toNat
    have hk : (bt s a.toNat - 247).toNat ≤ 8 := by omega
    have h2 : (256 : Nat) ^ (bt s a.toNat - 247).toNat ≤ 256 ^ 8 := Nat.pow_le_pow_right (by decide) hk
    have h3 : ((256 : Int) ^ (bt s a.toNat - 247).toNat) = ((256 ^ (bt s a.toNat - 247).toNat : Nat) : Int) := by rw [Int.natCast_pow]; rfl
    have h4 : (256 : Nat) ^ 8 = 18446744073709551616 := by decide
    omega
  · decide
theorem bigR_le {s : ByteArray} {a x : Int} : 0 ≤ (bigR s a x).1 ∧ (bigR s a x).1 < 18446744073709551616 := by
  have h1 := getR_range s a
  have h2 := getR_lt s a
  unfold bigR
  split
  · exact ⟨Int.le_refl _, by show (0 : Int) < _; decide⟩
  · dsimp only
    split
    · exact ⟨h1, h2⟩
    · exact ⟨Int.le_refl _, by decide⟩
theorem or_big (b : Nat) (s : ByteArray) (a e : Int) (w : World) (h : OR b s a e w) (hs : s.size ≤ 9223372036854775807) :
    Calls Try.prog 47 #[.pointer (some ⟨b, 0, none⟩)] w fun e1 w' => ∃ n a' e', e1 = .returned (.int .u64 n) ∧ bigR s a e = (n, a', e') ∧ 0 ≤ n ∧ n < 18446744073709551616 ∧ OR b s a' e' w' ∧ w.grownBy w' (some b) :=
  (rBig_re b s a e w h.re hs).mono (by
    rintro e1 x ⟨rfl, hw, hb⟩
    exact ⟨_, _, _, rfl, rfl, bigR_le.1, bigR_le.2, ⟨hw, bigR_at⟩, but_grown hb⟩)
theorem or_err (b : Nat) (s : ByteArray) (a e : Int) (w : World) (h : OR b s a e w) :
    Calls Try.prog 19 #[.pointer (some ⟨b, 0, none⟩)] w fun e1 w' => e1 = .returned (.int .i64 e) ∧ w = w' := err_re b s a e w h.re
end
end Go.Proofs.Ytcbagajjgbfgdaa

/- Stores into a part of a block; walks that may turn some blocks that were there (S). Conditions: none. -/
namespace Go.Proofs.Ytcbagajjgbfgdaa
open Go.RowKit
set_option linter.unusedVariables false

section
variable {P : Program} {n : Nat} {m : List (Nat × Value)} {w x w0 : World} {o : Oper} {N : Nat} {T : TypeId} {cs : Array Value} {S : Nat → Prop}
theorem op_storePart {t : TypeId} {p q : Operand} {cells cs' : Array Value} {k : Nat} (ho : o.op = .store t p q) (hp : ev m p = some (.pointer (some ⟨N, k, none⟩))) (hq : ev m q = some (.agg cells)) (h1 : cells.all (·.oneCell') = true) (hi : (P.info? t).map (·.size) = some cells.size)
    (hb : Blk w N T cs) (hk : Nat.ble (k + cells.size) cs.size = true) (he : (cs.toList.take k ++ cells.toList ++ cs.toList.drop (k + cells.size)).toArray = cs') : Op1 P n m o w (fun _ x => Blk x N T cs' ∧ x.heap.size = w.heap.size ∧ w.grownBy x (some N)) := by
  intro a ha K Q hN
  have hk' : k + cells.size ≤ cs.size := by simpa using hk
  have hthere : w.there N k cells.size := fun j hj => ⟨by rw [hb.cell (k := k + j) (v := cs[k + j]'(by omega)) (by rw [Array.getElem?_eq_getElem])]; rfl, hb.frozen _⟩
  refine wp_store_mid t p q ho N k cells (ha.ev hp) (ha.ev hq) hthere hi h1 (hN _ _ ⟨?_, ?_, ?_⟩)
  · have := setCells_blk cells.toList w cs k hb (by simpa using hk')
    simp only [Array.length_toList] at this
    rw [he] at this; exact this
  · have hsz : ∀ (vs : List Value) (k : Nat) (w : World), (w.setCells N k vs).heap.size = w.heap.size := by
      intro vs
      induction vs with
      | nil => intro k w; rfl
      | cons v r ih => intro k w; rw [World.setCells, ih]; simp [World.setCell]
    exact hsz _ _ _
  · have hg : ∀ (vs : List Value) (k : Nat) (w : World), w.grownBy (w.setCells N k vs) (some N) := by
      intro vs
      induction vs with
      | nil => intro k w; exact World.grownBy.refl _ _
      | cons v r ih => intro k w; rw [World.setCells]; exact (grown_setCell w N k v).trans (ih _ _)
    exact hg _ _ _
theorem fb_new (h : But S w0 w) (hg : w.grownBy x none) : But S w0 x := h.trans (But.of_below (grown_below hg))
theorem fb_call (h : But S w0 w) (hb : Below w.heap.size w x) : But S w0 x := h.trans (But.of_below hb)
theorem fb_at (h : But S w0 w) (hg : w.grownBy x (some N)) (hN : N < w0.heap.size → S N) : But S w0 x :=
  h.trans' (S' := fun k => some N = some k) (grown_but hg) (fun i hi e => by cases e; exact hN hi)
theorem fb_row {B sz k : Nat} {e : TypeId} {v : Value} {xs : List Value} (h : But S w0 w) (hr : w.ownsRow B e sz v k xs) (hB : w0.heap.size ≤ B) (hg : w.grownBy x v.ownBlock) : But S w0 x :=
  h.trans' (S' := fun k => v.ownBlock = some k) (grown_but hg) (fun i hi e => by have := (hr.lt i e).1; omega)
theorem fb_foot {S' : Nat → Prop} (h : But S w0 w) (hb : But S' w x) (hs : ∀ i, i < w0.heap.size → S' i → S i) : But S w0 x := h.trans' hb hs
theorem hb_foot {S' : Nat → Prop} (h : Below w0.heap.size w0 w) (hb : But S' w x) (hs : ∀ i, i < w.heap.size → S' i → w0.heap.size ≤ i) : Below w0.heap.size w0 x := below_but h hb h.size hs
theorem Blk.but (h : Blk w N T cs) (hb : But S w x) (hn : ¬ S N) : Blk x N T cs := by
  have hl := h.lt
  unfold Blk at h ⊢
  rw [hb.block N hl hn]; exact h
theorem own_but {B sz k : Nat} {e : TypeId} {v : Value} {xs : List Value} (h : w.ownsRow B e sz v k xs) (hb : But S w x) (hn : ∀ i, v.ownBlock = some i → ¬ S i) : x.ownsRow B e sz v k xs := by
  obtain ⟨h1, h2⟩ := h
  refine ⟨h1, ?_⟩
  rcases h2 with h2 | ⟨g, cap, cur, hv, hg, hh, r⟩
  · exact Or.inl h2
  · exact Or.inr ⟨g, cap, cur, hv, hg, by rw [hb.block g (Array.getElem?_eq_some_iff.1 hh).1 (hn g (by rw [hv]; rfl))]; exact hh, r⟩
theorem OR.but {b : Nat} {s : ByteArray} {a e : Int} (h : OR b s a e w) (hb : But S w x) (hn : ¬ S b) : OR b s a e x := ⟨h.re.but hb hn, h.pos⟩
theorem OXR.but {b : Nat} {s : ByteArray} {a e : Int} (h : OXR b s a e w) (hb : But S w x) (hn : ¬ S b) : OXR b s a e x := ⟨h.re.but hb hn, h.pos⟩
theorem OX.but {b : Nat} {l : List UInt8} {mm : Nat} (h : OX b l mm w) (hb : But S w x) (hn : ¬ S b) : OX b l mm x := ⟨h.wr.but hb hn, h.len⟩
end
end Go.Proofs.Ytcbagajjgbfgdaa

/- Package conf: the contracts once more, for packages over it; Put, Of. Conditions: none. -/
namespace Go.Proofs.Ytcbagajjgbfgdaa
open Go.RowKit Go.PlainAid
set_option linter.unusedVariables false


theorem memE_len (y : MemT) : (memE y).length = 2 := rfl
def sameCf (ep : Int) (ms : List MemT) (fl ep2 : Int) (ms2 : List MemT) (fl2 : Int) : Bool := decide (ep = ep2 ∧ fl = fl2 ∧ ms = ms2)
theorem sameCf_refl (ep : Int) (ms : List MemT) (fl : Int) : sameCf ep ms fl ep ms fl = true := by unfold sameCf; simp
def putCf (ep : Int) (ms : List MemT) (fl : Int) : ByteArray := if chkC ep ms = 0 then ⟨(putC ep ms fl).toArray⟩ else ⟨#[]⟩
theorem putCf_ok {ep fl : Int} {ms : List MemT} (h : chkC ep ms = 0) : putCf ep ms fl = ⟨(putC ep ms fl).toArray⟩ := by unfold putCf; rw [if_pos h]
theorem putCf_err {ep fl : Int} {ms : List MemT} (h : chkC ep ms ≠ 0) : putCf ep ms fl = ⟨#[]⟩ := by unfold putCf; rw [if_neg h]
theorem putCf_small {ep fl : Int} {ms : List MemT} : (putCf ep ms fl).size ≤ 200 := by
  by_cases h : chkC ep ms = 0
  · rw [putCf_ok h]
    show (putC ep ms fl).length ≤ _
    have h1 := putL_le ep; have h2 := putL_le (ms.length : Int); have h3 := putM_len ms; have h4 := putL_le fl; have h5 := (chkC_ok h).2.1
    unfold putC; simp only [List.length_append]; omega
  · rw [putCf_err h]; decide
theorem takeM_at {α : Type} {l : List α} {i : Nat} {y : α} (h : l[i]? = some y) : l.take (i + 1) = l.take i ++ [y] := by
  rw [List.take_add_one, h]; rfl
def ofC (s : ByteArray) : (Int × List MemT × Int) × Int := if ofErr s = 0 then (((ofAll s).1, (ofAll s).2.1, (ofAll s).2.2.1), 0) else ((0, [], 0), ofErr s)
def ofEndC (ep : Int) (ms : List MemT) (fl x : Int) : (Int × List MemT × Int) × Int := if x ≠ 0 then ((0, [], 0), x) else if chkC ep ms ≠ 0 then ((0, [], 0), chkC ep ms) else ((ep, ms, fl), 0)
theorem ofC_at {s : ByteArray} {ep n fl x a1 e1 a2 e2 a3 e3 a4 e4 : Int} {ms : List MemT} (h1 : numR s 0 0 1073741824 = (ep, a1, e1)) (h2 : numR s a1 e1 4 = (n, a2, e2)) (h3 : ofRows s n.toNat a2 e2 [] = (ms, a3, e3)) (h4 : bigR s a3 e3 = (fl, a4, e4)) (h5 : endV s a4.toNat e4 = x) : ofC s = ofEndC ep ms fl x := by
  have hA : ofAll s = (ep, ms, fl, a4, e4) := by unfold ofAll; simp only [h1, h2, h3, h4]
  unfold ofC ofErr ofEndC
  rw [hA]; simp only [h5]
  by_cases hx : x ≠ 0
  · rw [if_pos hx, if_pos hx]; rw [if_neg hx]
  · rw [if_neg hx, if_neg hx]
    by_cases hc : chkC ep ms ≠ 0
    · rw [if_pos hc, if_neg hc]
    · rw [if_neg hc, if_pos (by omega)]
theorem ofEndC_a {ep fl x : Int} {ms : List MemT} (h : x ≠ 0) : ofEndC ep ms fl x = ((0, [], 0), x) := by unfold ofEndC; rw [if_pos h]
theorem ofEndC_b {ep fl x : Int} {ms : List MemT} (h : ¬ x ≠ 0) (h1 : chkC ep ms ≠ 0) : ofEndC ep ms fl x = ((0, [], 0), chkC ep ms) := by unfold ofEndC; rw [if_neg h, if_pos h1]
theorem ofEndC_c {ep fl x : Int} {ms : List MemT} (h : ¬ x ≠ 0) (h1 : ¬ chkC ep ms ≠ 0) : ofEndC ep ms fl x = ((ep, ms, fl), 0) := by unfold ofEndC; rw [if_neg h, if_neg h1]
theorem ofRows_step {s : ByteArray} {k i : Nat} {a x m1 a1 e1 m2 a2 e2 : Int} {acc : List MemT} {Z : List MemT × Int × Int} (h : ofRows s (k - i) a x acc = Z) (hi : i < k) (h1 : numR s a x 3 = (m1, a1, e1)) (h2 : numR s a1 e1 1073741824 = (m2, a2, e2)) : ofRows s (k - (i + 1)) a2 e2 (acc ++ [(m1, m2)]) = Z := by
  rw [show k - i = (k - (i + 1)) + 1 by omega] at h
  unfold ofRows at h
  simp only [h1, h2] at h; exact h
theorem ofRows_all {s : ByteArray} {k i : Nat} {a x : Int} {acc : List MemT} {Z : List MemT × Int × Int} (h : ofRows s (k - i) a x acc = Z) (hi : i = k) : Z = (acc, a, x) := by
  subst hi; rw [Nat.sub_self] at h; exact h.symm
theorem rows_ok {s : ByteArray} {k : Nat} {a x a1 x1 : Int} {ms : List MemT} (h : ofRows s k a x [] = (ms, a1, x1)) : ∀ m ∈ ms, memOk m := by
  have := ofRows_ok s k a x [] (by simp); rw [h] at this; exact this
theorem wcheck_any (ep : Int) (mv : Value) (ms : List MemT) (fl : Int) (w : World) (hs : SliceOf memE 2 w mv ms) (hmk : ∀ m ∈ ms, memOk m) (he : -9223372036854775808 ≤ ep ∧ ep ≤ 9223372036854775807) (hf : 0 ≤ fl ∧ fl < 18446744073709551616) :
    Calls Try.prog 58 #[.agg #[.int .i64 ep, mv, .int .u64 fl]] w fun e w' => e = .returned (.int .i64 (chkC ep ms)) ∧ Below w.heap.size w w' := check_any ⟨ep, mv, ms, fl⟩ w ⟨hs, hmk, he.1, he.2, hf.1, hf.2⟩
theorem wrsame_any (ep : Int) (mv : Value) (ms : List MemT) (fl : Int) (ep2 : Int) (mv2 : Value) (ms2 : List MemT) (fl2 : Int) (w : World) (hs : SliceOf memE 2 w mv ms) (hmk : ∀ m ∈ ms, memOk m) (he : -9223372036854775808 ≤ ep ∧ ep ≤ 9223372036854775807) (hf : 0 ≤ fl ∧ fl < 18446744073709551616) (hs2 : SliceOf memE 2 w mv2 ms2) (hmk2 : ∀ m ∈ ms2, memOk m) (he2 : -9223372036854775808 ≤ ep2 ∧ ep2 ≤ 9223372036854775807) (hf2 : 0 ≤ fl2 ∧ fl2 < 18446744073709551616) :
    Calls Try.prog 23 #[.agg #[.int .i64 ep, mv, .int .u64 fl], .agg #[.int .i64 ep2, mv2, .int .u64 fl2]] w fun e w' => e = .returned (.bool (sameCf ep ms fl ep2 ms2 fl2)) ∧ Below w.heap.size w w' := rsame_any ⟨ep, mv, ms, fl⟩ ⟨ep2, mv2, ms2, fl2⟩ w ⟨hs, hmk, he.1, he.2, hf.1, hf.2⟩ ⟨hs2, hmk2, he2.1, he2.2, hf2.1, hf2.2⟩

set_option maxRecDepth 100000 in
theorem cOf_any (s : ByteArray) (ep : Int) (ms : List MemT) (fl : Int) (x : Int) (w : World) (hsz : s.size ≤ 9223372036854775807) (hof : ofC s = ((ep, ms, fl), x)) :
    Calls Try.prog 50 #[.string s] w fun e w' => ∃ (u : Value), e = .returned (.tuple #[.agg #[.int .i64 ep, u, .int .u64 fl], .int .i64 x]) ∧ w'.ownsRow w.heap.size 102 2 u ms.length (ms.flatMap memE) ∧ Below w.heap.size w w' := by
 have hB0 := Below.refl w.heap.size w;refine co_enter (n := 44) Try.func50 rfl rfl rfl [(0, .string s)] rfl (fun a g => ?_);refine q2 ?_;refine pw g rfl (op_new (v := fun N => pt N 0) (T := 26) (cs := #[.int .i64 0, .slice none 0 0, .int .u64 0]) (by kernel_rfl) (by kernel_rfl) (by kernel_rfl)) ?_;rintro _ w2 a1 ⟨N3, rfl, hN6, hz7, hk5, hg4⟩ g;have hz8 := hg4.size
 try dsimp only at g
 refine pk0 (v := .int .i64 0) g rfl fun _ g => q3 ?_;refine pk0 (v := .string s) g rfl fun _ g => ?_;refine pw g rfl (op_call (args := #[.string s]) (R := fun res xw => ∃ b : Nat, res = pt b 0 ∧ b = w2.heap.size ∧ OR b s 0 0 xw ∧ Below w2.heap.size w2 xw) rfl rfl rfl (by kernel_rfl) (by kernel_rfl) (Try.call17 _ _) (or_open s w2) (by rintro e x ⟨b, rfl, h0, h1, h2⟩; exact ⟨_, rfl, b, rfl, h0, h1, h2⟩)) ?_;rintro _ w12 a11 ⟨b13, rfl, hN14, ho15, hb16⟩ g;have hz17 := hb16.size;have hl18 := ho15.lt;refine pk0 (v := pt b13 0) g rfl fun _ g => q3 ?_;refine pk0 (v := pt b13 0) g rfl fun _ g => ?_;refine pw g rfl (op_call (args := #[pt b13 0, .int .i64 1073741824]) (R := fun res xw => ∃ (n : Int) (a' e' : Int), res = .int .i64 n ∧ numR s 0 0 1073741824 = (n, a', e') ∧ 0 ≤ n ∧ n ≤ 1073741824 ∧ OR b13 s a' e' xw ∧ w12.grownBy xw (some b13)) rfl rfl rfl (by kernel_rfl) (by kernel_rfl) (Try.call18 _ _) (or_num b13 s 0 0 1073741824 w12 ho15 (by omega) (by omega) (by omega)) (by rintro q x ⟨n, a', e', rfl, h0, k0, k1, h1, h2⟩; exact ⟨_, rfl, n, a', e', rfl, h0, k0, k1, h1, h2⟩)) ?_;rintro _ w22 a21 ⟨n23, a24, e25, rfl, hq26, hn27, hm28, ho29, hg30⟩ g;have hz31 := hg30.size;have hl32 := ho29.lt;refine pk0 (v := .agg #[.int .i64 n23, .slice none 0 0, .int .u64 0]) g rfl fun _ g => ?_;refine pw g rfl (op_new (v := fun N => pt N 0) (T := 26) (cs := #[.int .i64 0, .slice none 0 0, .int .u64 0]) (by kernel_rfl) (by kernel_rfl) (by kernel_rfl)) ?_;rintro _ w35 a34 ⟨N36, rfl, hN39, hz40, hk38, hg37⟩ g;have hz41 := hg37.size
 try dsimp only at g
 refine pwD g rfl (op_storeN rfl rfl rfl (all_cons rfl (all_cons rfl (all_cons rfl all_nil))) (by kernel_rfl) hk38 rfl) ?_;rintro _ w43 a42 ⟨hk44, hz45, hg46⟩ g;have hk44' : Blk w43 N36 26 #[.int .i64 n23, .slice none 0 0, .int .u64 0] := hk44;have hz47 := hg46.size;refine q6 ?_;refine pk0 (v := pt b13 0) g rfl fun _ g => ?_;have ho59 := ho29.new hg37;have ho60 := ho59.at (by omega) hg46;refine pw g rfl (op_call (args := #[pt b13 0, .int .i64 4]) (R := fun res xw => ∃ (n : Int) (a' e' : Int), res = .int .i64 n ∧ numR s a24 e25 4 = (n, a', e') ∧ 0 ≤ n ∧ n ≤ 4 ∧ OR b13 s a' e' xw ∧ w43.grownBy xw (some b13)) rfl rfl rfl (by kernel_rfl) (by kernel_rfl) (Try.call18 _ _) (or_num b13 s a24 e25 4 w43 ho60 (by omega) (by omega) (by omega)) (by rintro q x ⟨n, a', e', rfl, h0, k0, k1, h1, h2⟩; exact ⟨_, rfl, n, a', e', rfl, h0, k0, k1, h1, h2⟩)) ?_;rintro _ w50 a49 ⟨n51, a52, e53, rfl, hq54, hn55, hm56, ho57, hg58⟩ g;have hz61 := hg58.size;have hl62 := ho57.lt;refine pk0 (v := .int .i64 0) g rfl fun _ g => q1 <| wp_block ?_;have g : Slots 44 [(2, pt N3 0), (4, pt b13 0), (5, pt N36 0), (14, .int .i64 n51), (15, .int .i64 0)] _ := g.sub ⟨rfl, rfl, rfl, rfl, rfl, trivial⟩;refine co_loop (fun mm a x => ∃ (i : Nat) (u : Value) (ls : List MemT) (ps : Int) (er : Int), Slots 44 [(2, pt N3 0), (4, pt b13 0), (5, pt N36 0), (14, .int .i64 n51), (15, .int .i64 (i : Int))] a ∧ mm = n51.toNat - i ∧ ((i : Int) ≤ n51) ∧ (ls.length = i) ∧ (ofRows s (n51.toNat - i) ps er ls = ofRows s n51.toNat a52 e53 []) ∧ Blk x N36 26 #[.int .i64 n23, u, .int .u64 0] ∧ OR b13 s ps er x ∧ x.ownsRow (N36 + 1) 102 2 u ls.length (ls.flatMap memE) ∧ Below w.heap.size w x ∧ Blk x N3 26 #[.int .i64 0, .slice none 0 0, .int .u64 0]) (n51.toNat - 0) ?_ ?_;have hk65 := hk44'.kept hg58 (by simp; omega);have hB66 := hb_new hB0 hg4;have hB67 := hb_call hB66 hb16;have hB68 := hb_at hB67 hg30 (by omega);have hB69 := hb_new hB68 hg37;have hB70 := hb_at hB69 hg46 (by omega);have hB71 := hb_at hB70 hg58 (by omega);have hk72 := hk5.below hb16;have hk73 := hk72.kept hg30 (by simp; omega);have hk74 := hk73.kept hg37 (by simp);have hk75 := hk74.kept hg46 (by simp; omega);have hk76 := hk75.kept hg58 (by simp; omega)
 · exact ⟨0, (.slice none 0 0), [], a52, e53, g.sub ⟨rfl, rfl, rfl, rfl, (slot_eq rfl (congrArg (Value.int .i64) (by first | rfl | omega))), trivial⟩, rfl, by omega, by first | rfl | (simp; omega), by first | rfl | exact hR', hk65, ho57, (row_nilL _ _ _ _ _), hB71, hk76⟩
 · rintro k77 a78 w79 ⟨i, u, ls, ps, er, g, rfl, hi80, hi81, hi82, hf83, hf84, hf85, hB86, hk87⟩
   have hz88 := hB86.size;have hl89 := hk87.lt;have hl90 := hf83.lt;have hl91 := hf84.lt;have hR : ofRows s (n51.toNat - i) ps er ls = ofRows s n51.toNat a52 e53 [] := by assumption
   refine q2 ?_;refine pk0 (v := .bool (decide ((i : Int) < n51))) g rfl fun _ g => q1 <| co_seq ?_;cases hc93 : (decide ((i : Int) < n51))
   ·
    rw [hc93] at g;have hp94 : ¬ ((i : Int) < n51) := of_decide_eq_false hc93;refine co_false g rfl <| wp_exit <| co_thenX <| co_thenX <| qx <| q2 ?_;refine pk0 (v := pt b13 0) g rfl fun _ g => ?_;refine pw g rfl (op_call (args := #[pt b13 0]) (R := fun res xw => ∃ (n : Int) (a' e' : Int), res = .int .u64 n ∧ bigR s ps er = (n, a', e') ∧ 0 ≤ n ∧ n < 18446744073709551616 ∧ OR b13 s a' e' xw ∧ w79.grownBy xw (some b13)) rfl rfl rfl (by kernel_rfl) (by kernel_rfl) (Try.call47 _ _) (or_big b13 s ps er w79 hf84 (by omega)) (by rintro q x ⟨n, a', e', rfl, h0, k0, k1, h1, h2⟩; exact ⟨_, rfl, n, a', e', rfl, h0, k0, k1, h1, h2⟩)) ?_;rintro _ w97 a96 ⟨n98, a99, e100, rfl, hq101, hn102, hm103, ho104, hg105⟩ g;have hz106 := hg105.size;have hl107 := ho104.lt;refine pk0 (v := pt N36 2) g rfl fun _ g => ?_;have hk114 := hf83.kept hg105 (by simp; omega);refine pwD g rfl (op_store1 rfl rfl rfl rfl Try.sizeOf22 hk114 rfl) ?_;rintro _ w110 a109 ⟨hk111, hz112, hg113⟩ g;have hk111' : Blk w110 N36 26 #[.int .i64 n23, u, .int .u64 n98] := hk111;have hz115 := hg113.size;refine q6 ?_;refine pk0 (v := pt b13 0) g rfl fun _ g => ?_;have ho122 := ho104.at (by omega) hg113;refine pw g rfl (op_call (args := #[pt b13 0]) (R := fun res xw => ∃ r : Int, res = .int .i64 r ∧ endV s a99.toNat e100 = r ∧ Below w110.heap.size w110 xw) rfl rfl rfl (by kernel_rfl) (by kernel_rfl) (Try.call22 _ _) (or_end b13 s a99 e100 w110 ho122 (by omega)) (by rintro e x ⟨r, rfl, h0, h2⟩; exact ⟨_, rfl, r, rfl, h0, h2⟩)) ?_;rintro _ w118 a117 ⟨r119, rfl, hq120, hb121⟩ g;have hz123 := hb121.size;refine pk0 (v := .int .i64 r119) g rfl fun _ g => q3 ?_;refine pk0 (v := .int .i64 r119) g rfl fun _ g => ?_;refine pk0 (v := .bool (r119 != 0)) g rfl fun _ g => q1 ?_;have hB128 := hb_at hB86 hg105 (by omega);have hB129 := hb_at hB128 hg113 (by omega);have hB130 := hb_call hB129 hb121;have hk131 := hk87.kept hg105 (by simp; omega);have hk132 := hk131.kept hg113 (by simp; omega);have hk133 := hk132.below hb121;have hr134 := row_kept_at hf85 hg105 (row_ne_lt hf85 (by omega));have hr135 := row_kept_at hr134 hg113 (row_ne_lt hr134 (by omega));have hr136 := row_kept_new hr135 (below_grown hb121);cases hc127 : (r119 != 0)
    ·
     rw [hc127] at g;have hp137 : ¬ (r119 ≠ 0) := by first | simpa using hc127 | simpa [and_assoc] using hc127
     refine co_false g rfl <| q8 ?_;have hk138 := hk111'.below hb121;refine pk (v := .agg #[.int .i64 n23, u, .int .u64 n98]) g rfl (rn_loadN rfl rfl Try.underlying26 rfl (by kernel_rfl) hk138.all) fun _ g => ?_;have hRy := (ofRows_all hR (by omega));refine pw g rfl (op_call (args := #[.agg #[.int .i64 n23, u, .int .u64 n98]]) (R := fun res xw => res = .int .i64 (chkC n23 ls) ∧ Below w118.heap.size w118 xw) rfl rfl rfl (by kernel_rfl) (by kernel_rfl) (Try.call58 _ _) (wcheck_any n23 u ls n98 w118 (row_sl hr136 memE_len) (rows_ok hRy) (by omega) (by omega)) (by rintro e x ⟨rfl, hb142⟩; exact ⟨_, rfl, ⟨rfl, hb142⟩⟩)) ?_;rintro _ w141 a140 ⟨rfl, hb142⟩ g;have hz143 := hb142.size;refine pk0 (v := .int .i64 (chkC n23 ls)) g rfl fun _ g => q3 ?_;refine pk0 (v := .int .i64 (chkC n23 ls)) g rfl fun _ g => ?_;refine pk0 (v := .bool (chkC n23 ls != 0)) g rfl fun _ g => q1 ?_;have hB148 := hb_call hB130 hb142;have ho149 := ho122.below hb121;have ho150 := ho149.below hb142;cases hc147 : (chkC n23 ls != 0)
     ·
      rw [hc147] at g;have hp151 : ¬ (chkC n23 ls ≠ 0) := by first | simpa using hc147 | simpa [and_assoc] using hc147
      refine co_false g rfl <| q7 ?_;have hk152 := hk138.below hb142;refine pk (v := .agg #[.int .i64 n23, u, .int .u64 n98]) g rfl (rn_loadN rfl rfl Try.underlying26 rfl (by kernel_rfl) hk152.all) fun _ g => ?_;have hr159 := row_kept_new hr136 (below_grown hb142);have hk160 := hk133.below hb142;refine pwD g rfl (op_storeN rfl rfl rfl (all_cons rfl (all_cons (row_one hr159) (all_cons rfl all_nil))) (by kernel_rfl) hk160 rfl) ?_;rintro _ w155 a154 ⟨hk156, hz157, hg158⟩ g;have hk156' : Blk w155 N3 26 #[.int .i64 n23, u, .int .u64 n98] := hk156;have hz161 := hg158.size;refine pk0 (v := .int .i64 0) g rfl fun _ g => q4 ?_;refine co_retC1 (Q := fun _ _ _ => True) g rfl rfl rfl hk156' Try.underlying26 rfl (by kernel_rfl) ?_;have hr163 := row_kept_at hr159 hg158 (row_ne_lt hr159 (by omega));have hB164 := hb_at hB148 hg158 (by omega);have hRz := (ofRows_all hR (by omega));cases hof.symm.trans ((ofC_at hq26 hq54 hRz hq101 hq120).trans (ofEndC_c (by assumption) (by assumption)));exact ⟨_, rfl, (row_lows hr163 (by omega)), hB164⟩
     rw [hc147] at g;have hp165 : chkC n23 ls ≠ 0 := by first | simpa using hc147 | simpa [and_assoc] using hc147
     refine co_true g rfl <| q2 ?_;refine pk0 (v := .agg #[.int .i64 0, .slice none 0 0, .int .u64 0]) g rfl fun _ g => ?_;refine pk0 (v := .int .i64 (chkC n23 ls)) g rfl fun _ g => ?_;have hk173 := hk133.below hb142;refine pwD g rfl (op_storeN rfl rfl rfl (all_cons rfl (all_cons rfl (all_cons rfl all_nil))) (by kernel_rfl) hk173 rfl) ?_;rintro _ w169 a168 ⟨hk170, hz171, hg172⟩ g;have hk170' : Blk w169 N3 26 #[.int .i64 0, .slice none 0 0, .int .u64 0] := hk170;have hz174 := hg172.size;refine pk0 (v := .int .i64 (chkC n23 ls)) g rfl fun _ g => q5 ?_;refine co_retC1 (Q := fun _ _ _ => True) g rfl rfl rfl hk170' Try.underlying26 rfl (by kernel_rfl) ?_;have hB176 := hb_at hB148 hg172 (by omega);have hRz := (ofRows_all hR (by omega));cases hof.symm.trans ((ofC_at hq26 hq54 hRz hq101 hq120).trans (ofEndC_b (by assumption) (by assumption)));exact ⟨_, rfl, (row_nilL _ _ _ _ _), hB176⟩
    rw [hc127] at g;have hp177 : r119 ≠ 0 := by first | simpa using hc127 | simpa [and_assoc] using hc127
    refine co_true g rfl <| q2 ?_;refine pk0 (v := .agg #[.int .i64 0, .slice none 0 0, .int .u64 0]) g rfl fun _ g => ?_;refine pk0 (v := .int .i64 r119) g rfl fun _ g => ?_;refine pwD g rfl (op_storeN rfl rfl rfl (all_cons rfl (all_cons rfl (all_cons rfl all_nil))) (by kernel_rfl) hk133 rfl) ?_;rintro _ w181 a180 ⟨hk182, hz183, hg184⟩ g;have hk182' : Blk w181 N3 26 #[.int .i64 0, .slice none 0 0, .int .u64 0] := hk182;have hz185 := hg184.size;refine pk0 (v := .int .i64 r119) g rfl fun _ g => q5 ?_;refine co_retC1 (Q := fun _ _ _ => True) g rfl rfl rfl hk182' Try.underlying26 rfl (by kernel_rfl) ?_;have hB187 := hb_at hB130 hg184 (by omega);have hRz := (ofRows_all hR (by omega));cases hof.symm.trans ((ofC_at hq26 hq54 hRz hq101 hq120).trans (ofEndC_a (by assumption)));exact ⟨_, rfl, (row_nilL _ _ _ _ _), hB187⟩
   rw [hc93] at g;have hp188 : (i : Int) < n51 := of_decide_eq_true hc93;refine co_true g rfl <| q0 <| co_seq <| wp_block ?_;refine dr_gen (fun x => Below w.heap.size w x) (by kernel_rfl) (fun w189 hg190 => ?_) (fun w189 hg190 => ?_)
   ·
    have hz191 := hg190.size;have hB192 := hb_new hB86 hg190;exact hB192
   have hz193 := hg190.size;have hB194 := hb_new hB86 hg190;refine dk0 0 (v := pt N36 1) g rfl rfl hB194 fun _ g => ?_;refine dk0 2 (v := pt b13 0) g rfl rfl hB194 fun _ g => ?_;refine dk0 4 (v := pt b13 0) g rfl rfl hB194 fun _ g => ?_;refine dr_many [1, 3] (by kernel_rfl) (by simp) ⟨?_, ?_, trivial⟩
   ·
    have hk198 := hf83.kept hg190 (by simp);refine dr_opVal (i := 1) (v := u) g rfl rfl rfl rfl (by kernel_rfl) rfl (rn_load1 rfl rfl Try.isAgg24 (hk198.cell rfl)) hB194 (fun _ g => ?_);have ho210 := hf84.new hg190;refine d1 3 g rfl rfl (op_call (args := #[pt b13 0, .int .i64 3]) (R := fun res xw => ∃ (n : Int) (a' e' : Int), res = .int .i64 n ∧ numR s ps er 3 = (n, a', e') ∧ 0 ≤ n ∧ n ≤ 3 ∧ OR b13 s a' e' xw ∧ w189.grownBy xw (some b13)) rfl rfl rfl (by kernel_rfl) (by kernel_rfl) (Try.call18 _ _) (or_num b13 s ps er 3 w189 ho210 (by omega) (by omega) (by omega)) (by rintro q x ⟨n, a', e', rfl, h0, k0, k1, h1, h2⟩; exact ⟨_, rfl, n, a', e', rfl, h0, k0, k1, h1, h2⟩)) ?_ ?_
    ·
     rintro _ w201 ⟨n202, a203, e204, rfl, hq205, hn206, hm207, ho208, hg209⟩;have hz211 := hg209.size;have hl212 := ho208.lt;have hB213 := hb_at hB194 hg209 (by omega);exact hB213
    rintro _ w201 a200 ⟨n202, a203, e204, rfl, hq205, hn206, hm207, ho208, hg209⟩ g;have hz211 := hg209.size;have hl212 := ho208.lt;have hB213 := hb_at hB194 hg209 (by omega);refine d1 5 g rfl rfl (op_call (args := #[pt b13 0, .int .i64 1073741824]) (R := fun res xw => ∃ (n : Int) (a' e' : Int), res = .int .i64 n ∧ numR s a203 e204 1073741824 = (n, a', e') ∧ 0 ≤ n ∧ n ≤ 1073741824 ∧ OR b13 s a' e' xw ∧ w201.grownBy xw (some b13)) rfl rfl rfl (by kernel_rfl) (by kernel_rfl) (Try.call18 _ _) (or_num b13 s a203 e204 1073741824 w201 ho208 (by omega) (by omega) (by omega)) (by rintro q x ⟨n, a', e', rfl, h0, k0, k1, h1, h2⟩; exact ⟨_, rfl, n, a', e', rfl, h0, k0, k1, h1, h2⟩)) ?_ ?_
    ·
     rintro _ w215 ⟨n216, a217, e218, rfl, hq219, hn220, hm221, ho222, hg223⟩;have hz224 := hg223.size;have hl225 := ho222.lt;have hB226 := hb_at hB213 hg223 (by omega);exact hB226
    rintro _ w215 a214 ⟨n216, a217, e218, rfl, hq219, hn220, hm221, ho222, hg223⟩ g;have hz224 := hg223.size;have hl225 := ho222.lt;have hB226 := hb_at hB213 hg223 (by omega);refine dk0 6 (v := .agg #[.int .i64 n202, .int .i64 n216]) g rfl rfl hB226 fun _ g => ?_;refine d1 7 g rfl rfl (op_new (v := fun N => .slice (some ⟨N, 0, none⟩) 1 1) (T := 102) (cs := #[.int .i64 n202, .int .i64 n216]) (by kernel_rfl) (by kernel_rfl) (by kernel_rfl)) ?_ ?_
    ·
     rintro _ w229 ⟨N230, rfl, hN233, hz234, hk232, hg231⟩;have hr236 := row_kept_new hf85 hg190;have hr237 := row_kept_at hr236 hg209 (row_ne_lt hr236 (by omega));have hr238 := row_kept_at hr237 hg223 (row_ne_lt hr237 (by omega));have ha235 := row_fresh hr238 hN233;have hz239 := hg231.size;have hB240 := hb_new hB226 hg231;exact hB240
    rintro _ w229 a228 ⟨N230, rfl, hN233, hz234, hk232, hg231⟩ g;have hr236 := row_kept_new hf85 hg190;have hr237 := row_kept_at hr236 hg209 (row_ne_lt hr236 (by omega));have hr238 := row_kept_at hr237 hg223 (row_ne_lt hr237 (by omega));have ha235 := row_fresh hr238 hN233;have hz239 := hg231.size
    try dsimp only at g
    have hB240 := hb_new hB226 hg231;have hr246 := row_kept_new hr238 hg231;refine d1 8 g rfl rfl (op_append rfl (N36 + 1) 102 (z := .agg #[.int .i64 0, .int .i64 0]) (size := 2) (bytes := 16) Try.underlying24 (by kernel_rfl) rfl rfl rfl hr246 rfl hk232 rfl (by kernel_rfl) (by first | omega | (simp only [List.length_nil, List.length_append, List.length_cons, List.length_take, List.length_drop]; omega)) (by first | omega | (simp only [List.length_nil, List.length_append, List.length_cons, List.length_take, List.length_drop]; omega)) (by omega)) ?_ ?_
    ·
     rintro v243 w242 ⟨hr244, hg245⟩;have hr244' : w242.ownsRow (N36 + 1) 102 2 v243 ((ls ++ [(n202, n216)]).length) ((ls ++ [(n202, n216)]).flatMap memE) := row_push (y := (n202, n216)) hr244 rfl rfl;have hz247 := hg245.size;have hB248 := hb_row hB240 hr246 (by omega) hg245;exact hB248
    rintro v243 w242 a241 ⟨hr244, hg245⟩ g;have hr244' : w242.ownsRow (N36 + 1) 102 2 v243 ((ls ++ [(n202, n216)]).length) ((ls ++ [(n202, n216)]).flatMap memE) := row_push (y := (n202, n216)) hr244 rfl rfl;have hz247 := hg245.size;have hB248 := hb_row hB240 hr246 (by omega) hg245;refine dk0 9 (v := pt N36 1) g rfl rfl hB248 fun _ g => ?_;have hk255 := hk198.kept hg209 (by simp; omega);have hk256 := hk255.kept hg223 (by simp; omega);have hk257 := hk256.kept hg231 (by simp);have hk258 := hk257.kept hg245 (row_ne_lt hr246 (by omega));refine d1D 10 g rfl rfl (op_store1 rfl rfl rfl (row_one hr244') Try.sizeOf24 hk258 rfl) ?_ ?_
    ·
     rintro _ w251 ⟨hk252, hz253, hg254⟩;have hk252' : Blk w251 N36 26 #[.int .i64 n23, v243, .int .u64 0] := hk252;have hz259 := hg254.size;have hB260 := hb_at hB248 hg254 (by omega);exact hB260
    rintro _ w251 a250 ⟨hk252, hz253, hg254⟩ g;have hk252' : Blk w251 N36 26 #[.int .i64 n23, v243, .int .u64 0] := hk252;have hz259 := hg254.size;refine dr_done (by kernel_rfl) ?_;refine co_blockN <| co_then <| co_reg ?_;refine pk (v := .int .i64 ((i + 1 : Nat) : Int)) g rfl (rn_arith' rfl rfl rfl rfl rfl rfl (IntWalk.i64_in _ (by omega)) (by omega)) fun _ g => ?_;refine pk0 (v := .int .i64 ((i + 1 : Nat) : Int)) g rfl fun _ g => q1 ?_;refine ⟨(n51.toNat - (i + 1)), by omega, ?_⟩;have hR' := ofRows_step hR (by omega) hq205 hq219;have ho262 := ho222.new hg231;have ho263 := ho262.row (row_ne_lt hr246 (by omega)) hg245;have ho264 := ho263.at (by omega) hg254;have hr265 := row_kept_at hr244' hg254 (row_ne_lt hr244' (by omega));have hB266 := hb_at hB248 hg254 (by omega);have hk267 := hk87.kept hg190 (by simp);have hk268 := hk267.kept hg209 (by simp; omega);have hk269 := hk268.kept hg223 (by simp; omega);have hk270 := hk269.kept hg231 (by simp);have hk271 := hk270.kept hg245 (row_ne_lt hr246 (by omega));have hk272 := hk271.kept hg254 (by simp; omega);exact ⟨i + 1, v243, ls ++ [(n202, n216)], a217, e218, g.sub ⟨rfl, rfl, rfl, rfl, rfl, trivial⟩, rfl, by omega, by first | rfl | (simp; omega), by first | rfl | exact hR', hk252', ho264, (row_eq hr265 (rfl)), hB266, hk272⟩
   have ho283 := hf84.new hg190;refine dr_op (i := 3) g rfl rfl rfl rfl (op_call (args := #[pt b13 0, .int .i64 3]) (R := fun res xw => ∃ (n : Int) (a' e' : Int), res = .int .i64 n ∧ numR s ps er 3 = (n, a', e') ∧ 0 ≤ n ∧ n ≤ 3 ∧ OR b13 s a' e' xw ∧ w189.grownBy xw (some b13)) rfl rfl rfl (by kernel_rfl) (by kernel_rfl) (Try.call18 _ _) (or_num b13 s ps er 3 w189 ho283 (by omega) (by omega) (by omega)) (by rintro q x ⟨n, a', e', rfl, h0, k0, k1, h1, h2⟩; exact ⟨_, rfl, n, a', e', rfl, h0, k0, k1, h1, h2⟩)) ?_ ?_
   ·
    rintro _ w274 ⟨n275, a276, e277, rfl, hq278, hn279, hm280, ho281, hg282⟩;have hz284 := hg282.size;have hl285 := ho281.lt;have hB286 := hb_at hB194 hg282 (by omega);exact hB286
   rintro _ w274 a273 ⟨n275, a276, e277, rfl, hq278, hn279, hm280, ho281, hg282⟩ g;have hz284 := hg282.size;have hl285 := ho281.lt;have hB286 := hb_at hB194 hg282 (by omega);refine dr_many [1, 5] (by kernel_rfl) (by simp) ⟨?_, ?_, trivial⟩
   ·
    have hk287 := hf83.kept hg190 (by simp);have hk288 := hk287.kept hg282 (by simp; omega);refine dr_opVal (i := 1) (v := u) g rfl rfl rfl rfl (by kernel_rfl) rfl (rn_load1 rfl rfl Try.isAgg24 (hk288.cell rfl)) hB286 (fun _ g => ?_);refine d1 5 g rfl rfl (op_call (args := #[pt b13 0, .int .i64 1073741824]) (R := fun res xw => ∃ (n : Int) (a' e' : Int), res = .int .i64 n ∧ numR s a276 e277 1073741824 = (n, a', e') ∧ 0 ≤ n ∧ n ≤ 1073741824 ∧ OR b13 s a' e' xw ∧ w274.grownBy xw (some b13)) rfl rfl rfl (by kernel_rfl) (by kernel_rfl) (Try.call18 _ _) (or_num b13 s a276 e277 1073741824 w274 ho281 (by omega) (by omega) (by omega)) (by rintro q x ⟨n, a', e', rfl, h0, k0, k1, h1, h2⟩; exact ⟨_, rfl, n, a', e', rfl, h0, k0, k1, h1, h2⟩)) ?_ ?_
    ·
     rintro _ w291 ⟨n292, a293, e294, rfl, hq295, hn296, hm297, ho298, hg299⟩;have hz300 := hg299.size;have hl301 := ho298.lt;have hB302 := hb_at hB286 hg299 (by omega);exact hB302
    rintro _ w291 a290 ⟨n292, a293, e294, rfl, hq295, hn296, hm297, ho298, hg299⟩ g;have hz300 := hg299.size;have hl301 := ho298.lt;have hB302 := hb_at hB286 hg299 (by omega);refine dk0 6 (v := .agg #[.int .i64 n275, .int .i64 n292]) g rfl rfl hB302 fun _ g => ?_;refine d1 7 g rfl rfl (op_new (v := fun N => .slice (some ⟨N, 0, none⟩) 1 1) (T := 102) (cs := #[.int .i64 n275, .int .i64 n292]) (by kernel_rfl) (by kernel_rfl) (by kernel_rfl)) ?_ ?_
    ·
     rintro _ w305 ⟨N306, rfl, hN309, hz310, hk308, hg307⟩;have hr312 := row_kept_new hf85 hg190;have hr313 := row_kept_at hr312 hg282 (row_ne_lt hr312 (by omega));have hr314 := row_kept_at hr313 hg299 (row_ne_lt hr313 (by omega));have ha311 := row_fresh hr314 hN309;have hz315 := hg307.size;have hB316 := hb_new hB302 hg307;exact hB316
    rintro _ w305 a304 ⟨N306, rfl, hN309, hz310, hk308, hg307⟩ g;have hr312 := row_kept_new hf85 hg190;have hr313 := row_kept_at hr312 hg282 (row_ne_lt hr312 (by omega));have hr314 := row_kept_at hr313 hg299 (row_ne_lt hr313 (by omega));have ha311 := row_fresh hr314 hN309;have hz315 := hg307.size
    try dsimp only at g
    have hB316 := hb_new hB302 hg307;have hr322 := row_kept_new hr314 hg307;refine d1 8 g rfl rfl (op_append rfl (N36 + 1) 102 (z := .agg #[.int .i64 0, .int .i64 0]) (size := 2) (bytes := 16) Try.underlying24 (by kernel_rfl) rfl rfl rfl hr322 rfl hk308 rfl (by kernel_rfl) (by first | omega | (simp only [List.length_nil, List.length_append, List.length_cons, List.length_take, List.length_drop]; omega)) (by first | omega | (simp only [List.length_nil, List.length_append, List.length_cons, List.length_take, List.length_drop]; omega)) (by omega)) ?_ ?_
    ·
     rintro v319 w318 ⟨hr320, hg321⟩;have hr320' : w318.ownsRow (N36 + 1) 102 2 v319 ((ls ++ [(n275, n292)]).length) ((ls ++ [(n275, n292)]).flatMap memE) := row_push (y := (n275, n292)) hr320 rfl rfl;have hz323 := hg321.size;have hB324 := hb_row hB316 hr322 (by omega) hg321;exact hB324
    rintro v319 w318 a317 ⟨hr320, hg321⟩ g;have hr320' : w318.ownsRow (N36 + 1) 102 2 v319 ((ls ++ [(n275, n292)]).length) ((ls ++ [(n275, n292)]).flatMap memE) := row_push (y := (n275, n292)) hr320 rfl rfl;have hz323 := hg321.size;have hB324 := hb_row hB316 hr322 (by omega) hg321;refine dk0 9 (v := pt N36 1) g rfl rfl hB324 fun _ g => ?_;have hk331 := hk288.kept hg299 (by simp; omega);have hk332 := hk331.kept hg307 (by simp);have hk333 := hk332.kept hg321 (row_ne_lt hr322 (by omega));refine d1D 10 g rfl rfl (op_store1 rfl rfl rfl (row_one hr320') Try.sizeOf24 hk333 rfl) ?_ ?_
    ·
     rintro _ w327 ⟨hk328, hz329, hg330⟩;have hk328' : Blk w327 N36 26 #[.int .i64 n23, v319, .int .u64 0] := hk328;have hz334 := hg330.size;have hB335 := hb_at hB324 hg330 (by omega);exact hB335
    rintro _ w327 a326 ⟨hk328, hz329, hg330⟩ g;have hk328' : Blk w327 N36 26 #[.int .i64 n23, v319, .int .u64 0] := hk328;have hz334 := hg330.size;refine dr_done (by kernel_rfl) ?_;refine co_blockN <| co_then <| co_reg ?_;refine pk (v := .int .i64 ((i + 1 : Nat) : Int)) g rfl (rn_arith' rfl rfl rfl rfl rfl rfl (IntWalk.i64_in _ (by omega)) (by omega)) fun _ g => ?_;refine pk0 (v := .int .i64 ((i + 1 : Nat) : Int)) g rfl fun _ g => q1 ?_;refine ⟨(n51.toNat - (i + 1)), by omega, ?_⟩;have hR' := ofRows_step hR (by omega) hq278 hq295;have ho337 := ho298.new hg307;have ho338 := ho337.row (row_ne_lt hr322 (by omega)) hg321;have ho339 := ho338.at (by omega) hg330;have hr340 := row_kept_at hr320' hg330 (row_ne_lt hr320' (by omega));have hB341 := hb_at hB324 hg330 (by omega);have hk342 := hk87.kept hg190 (by simp);have hk343 := hk342.kept hg282 (by simp; omega);have hk344 := hk343.kept hg299 (by simp; omega);have hk345 := hk344.kept hg307 (by simp);have hk346 := hk345.kept hg321 (row_ne_lt hr322 (by omega));have hk347 := hk346.kept hg330 (by simp; omega);exact ⟨i + 1, v319, ls ++ [(n275, n292)], a293, e294, g.sub ⟨rfl, rfl, rfl, rfl, rfl, trivial⟩, rfl, by omega, by first | rfl | (simp; omega), by first | rfl | exact hR', hk328', ho339, (row_eq hr340 (rfl)), hB341, hk347⟩
   refine dr_op (i := 5) g rfl rfl rfl rfl (op_call (args := #[pt b13 0, .int .i64 1073741824]) (R := fun res xw => ∃ (n : Int) (a' e' : Int), res = .int .i64 n ∧ numR s a276 e277 1073741824 = (n, a', e') ∧ 0 ≤ n ∧ n ≤ 1073741824 ∧ OR b13 s a' e' xw ∧ w274.grownBy xw (some b13)) rfl rfl rfl (by kernel_rfl) (by kernel_rfl) (Try.call18 _ _) (or_num b13 s a276 e277 1073741824 w274 ho281 (by omega) (by omega) (by omega)) (by rintro q x ⟨n, a', e', rfl, h0, k0, k1, h1, h2⟩; exact ⟨_, rfl, n, a', e', rfl, h0, k0, k1, h1, h2⟩)) ?_ ?_
   ·
    rintro _ w349 ⟨n350, a351, e352, rfl, hq353, hn354, hm355, ho356, hg357⟩;have hz358 := hg357.size;have hl359 := ho356.lt;have hB360 := hb_at hB286 hg357 (by omega);exact hB360
   rintro _ w349 a348 ⟨n350, a351, e352, rfl, hq353, hn354, hm355, ho356, hg357⟩ g;have hz358 := hg357.size;have hl359 := ho356.lt;have hB360 := hb_at hB286 hg357 (by omega);refine dk0 6 (v := .agg #[.int .i64 n275, .int .i64 n350]) g rfl rfl hB360 fun _ g => ?_;refine dr_many [1, 7] (by kernel_rfl) (by simp) ⟨?_, ?_, trivial⟩
   ·
    have hk362 := hf83.kept hg190 (by simp);have hk363 := hk362.kept hg282 (by simp; omega);have hk364 := hk363.kept hg357 (by simp; omega);refine dr_opVal (i := 1) (v := u) g rfl rfl rfl rfl (by kernel_rfl) rfl (rn_load1 rfl rfl Try.isAgg24 (hk364.cell rfl)) hB360 (fun _ g => ?_);refine d1 7 g rfl rfl (op_new (v := fun N => .slice (some ⟨N, 0, none⟩) 1 1) (T := 102) (cs := #[.int .i64 n275, .int .i64 n350]) (by kernel_rfl) (by kernel_rfl) (by kernel_rfl)) ?_ ?_
    ·
     rintro _ w367 ⟨N368, rfl, hN371, hz372, hk370, hg369⟩;have hr374 := row_kept_new hf85 hg190;have hr375 := row_kept_at hr374 hg282 (row_ne_lt hr374 (by omega));have hr376 := row_kept_at hr375 hg357 (row_ne_lt hr375 (by omega));have ha373 := row_fresh hr376 hN371;have hz377 := hg369.size;have hB378 := hb_new hB360 hg369;exact hB378
    rintro _ w367 a366 ⟨N368, rfl, hN371, hz372, hk370, hg369⟩ g;have hr374 := row_kept_new hf85 hg190;have hr375 := row_kept_at hr374 hg282 (row_ne_lt hr374 (by omega));have hr376 := row_kept_at hr375 hg357 (row_ne_lt hr375 (by omega));have ha373 := row_fresh hr376 hN371;have hz377 := hg369.size
    try dsimp only at g
    have hB378 := hb_new hB360 hg369;have hr384 := row_kept_new hr376 hg369;refine d1 8 g rfl rfl (op_append rfl (N36 + 1) 102 (z := .agg #[.int .i64 0, .int .i64 0]) (size := 2) (bytes := 16) Try.underlying24 (by kernel_rfl) rfl rfl rfl hr384 rfl hk370 rfl (by kernel_rfl) (by first | omega | (simp only [List.length_nil, List.length_append, List.length_cons, List.length_take, List.length_drop]; omega)) (by first | omega | (simp only [List.length_nil, List.length_append, List.length_cons, List.length_take, List.length_drop]; omega)) (by omega)) ?_ ?_
    ·
     rintro v381 w380 ⟨hr382, hg383⟩;have hr382' : w380.ownsRow (N36 + 1) 102 2 v381 ((ls ++ [(n275, n350)]).length) ((ls ++ [(n275, n350)]).flatMap memE) := row_push (y := (n275, n350)) hr382 rfl rfl;have hz385 := hg383.size;have hB386 := hb_row hB378 hr384 (by omega) hg383;exact hB386
    rintro v381 w380 a379 ⟨hr382, hg383⟩ g;have hr382' : w380.ownsRow (N36 + 1) 102 2 v381 ((ls ++ [(n275, n350)]).length) ((ls ++ [(n275, n350)]).flatMap memE) := row_push (y := (n275, n350)) hr382 rfl rfl;have hz385 := hg383.size;have hB386 := hb_row hB378 hr384 (by omega) hg383;refine dk0 9 (v := pt N36 1) g rfl rfl hB386 fun _ g => ?_;have hk393 := hk364.kept hg369 (by simp);have hk394 := hk393.kept hg383 (row_ne_lt hr384 (by omega));refine d1D 10 g rfl rfl (op_store1 rfl rfl rfl (row_one hr382') Try.sizeOf24 hk394 rfl) ?_ ?_
    ·
     rintro _ w389 ⟨hk390, hz391, hg392⟩;have hk390' : Blk w389 N36 26 #[.int .i64 n23, v381, .int .u64 0] := hk390;have hz395 := hg392.size;have hB396 := hb_at hB386 hg392 (by omega);exact hB396
    rintro _ w389 a388 ⟨hk390, hz391, hg392⟩ g;have hk390' : Blk w389 N36 26 #[.int .i64 n23, v381, .int .u64 0] := hk390;have hz395 := hg392.size;refine dr_done (by kernel_rfl) ?_;refine co_blockN <| co_then <| co_reg ?_;refine pk (v := .int .i64 ((i + 1 : Nat) : Int)) g rfl (rn_arith' rfl rfl rfl rfl rfl rfl (IntWalk.i64_in _ (by omega)) (by omega)) fun _ g => ?_;refine pk0 (v := .int .i64 ((i + 1 : Nat) : Int)) g rfl fun _ g => q1 ?_;refine ⟨(n51.toNat - (i + 1)), by omega, ?_⟩;have hR' := ofRows_step hR (by omega) hq278 hq353;have ho398 := ho356.new hg369;have ho399 := ho398.row (row_ne_lt hr384 (by omega)) hg383;have ho400 := ho399.at (by omega) hg392;have hr401 := row_kept_at hr382' hg392 (row_ne_lt hr382' (by omega));have hB402 := hb_at hB386 hg392 (by omega);have hk403 := hk87.kept hg190 (by simp);have hk404 := hk403.kept hg282 (by simp; omega);have hk405 := hk404.kept hg357 (by simp; omega);have hk406 := hk405.kept hg369 (by simp);have hk407 := hk406.kept hg383 (row_ne_lt hr384 (by omega));have hk408 := hk407.kept hg392 (by simp; omega);exact ⟨i + 1, v381, ls ++ [(n275, n350)], a351, e352, g.sub ⟨rfl, rfl, rfl, rfl, rfl, trivial⟩, rfl, by omega, by first | rfl | (simp; omega), by first | rfl | exact hR', hk390', ho400, (row_eq hr401 (rfl)), hB402, hk408⟩
   refine dr_op (i := 7) g rfl rfl rfl rfl (op_new (v := fun N => .slice (some ⟨N, 0, none⟩) 1 1) (T := 102) (cs := #[.int .i64 n275, .int .i64 n350]) (by kernel_rfl) (by kernel_rfl) (by kernel_rfl)) ?_ ?_
   ·
    rintro _ w410 ⟨N411, rfl, hN414, hz415, hk413, hg412⟩;have hr417 := row_kept_new hf85 hg190;have hr418 := row_kept_at hr417 hg282 (row_ne_lt hr417 (by omega));have hr419 := row_kept_at hr418 hg357 (row_ne_lt hr418 (by omega));have ha416 := row_fresh hr419 hN414;have hz420 := hg412.size;have hB421 := hb_new hB360 hg412;exact hB421
   rintro _ w410 a409 ⟨N411, rfl, hN414, hz415, hk413, hg412⟩ g;have hr417 := row_kept_new hf85 hg190;have hr418 := row_kept_at hr417 hg282 (row_ne_lt hr417 (by omega));have hr419 := row_kept_at hr418 hg357 (row_ne_lt hr418 (by omega));have ha416 := row_fresh hr419 hN414;have hz420 := hg412.size
   try dsimp only at g
   have hB421 := hb_new hB360 hg412;refine dr_many [1] (by kernel_rfl) (by simp) ⟨?_, trivial⟩;have hk422 := hf83.kept hg190 (by simp);have hk423 := hk422.kept hg282 (by simp; omega);have hk424 := hk423.kept hg357 (by simp; omega);have hk425 := hk424.kept hg412 (by simp);refine dr_opVal (i := 1) (v := u) g rfl rfl rfl rfl (by kernel_rfl) rfl (rn_load1 rfl rfl Try.isAgg24 (hk425.cell rfl)) hB421 (fun _ g => ?_);have hr432 := row_kept_new hr419 hg412;refine d1 8 g rfl rfl (op_append rfl (N36 + 1) 102 (z := .agg #[.int .i64 0, .int .i64 0]) (size := 2) (bytes := 16) Try.underlying24 (by kernel_rfl) rfl rfl rfl hr432 rfl hk413 rfl (by kernel_rfl) (by first | omega | (simp only [List.length_nil, List.length_append, List.length_cons, List.length_take, List.length_drop]; omega)) (by first | omega | (simp only [List.length_nil, List.length_append, List.length_cons, List.length_take, List.length_drop]; omega)) (by omega)) ?_ ?_
   ·
    rintro v429 w428 ⟨hr430, hg431⟩;have hr430' : w428.ownsRow (N36 + 1) 102 2 v429 ((ls ++ [(n275, n350)]).length) ((ls ++ [(n275, n350)]).flatMap memE) := row_push (y := (n275, n350)) hr430 rfl rfl;have hz433 := hg431.size;have hB434 := hb_row hB421 hr432 (by omega) hg431;exact hB434
   rintro v429 w428 a427 ⟨hr430, hg431⟩ g;have hr430' : w428.ownsRow (N36 + 1) 102 2 v429 ((ls ++ [(n275, n350)]).length) ((ls ++ [(n275, n350)]).flatMap memE) := row_push (y := (n275, n350)) hr430 rfl rfl;have hz433 := hg431.size;have hB434 := hb_row hB421 hr432 (by omega) hg431;refine dk0 9 (v := pt N36 1) g rfl rfl hB434 fun _ g => ?_;have hk441 := hk425.kept hg431 (row_ne_lt hr432 (by omega));refine d1D 10 g rfl rfl (op_store1 rfl rfl rfl (row_one hr430') Try.sizeOf24 hk441 rfl) ?_ ?_
   ·
    rintro _ w437 ⟨hk438, hz439, hg440⟩;have hk438' : Blk w437 N36 26 #[.int .i64 n23, v429, .int .u64 0] := hk438;have hz442 := hg440.size;have hB443 := hb_at hB434 hg440 (by omega);exact hB443
   rintro _ w437 a436 ⟨hk438, hz439, hg440⟩ g;have hk438' : Blk w437 N36 26 #[.int .i64 n23, v429, .int .u64 0] := hk438;have hz442 := hg440.size;refine dr_done (by kernel_rfl) ?_;refine co_blockN <| co_then <| co_reg ?_;refine pk (v := .int .i64 ((i + 1 : Nat) : Int)) g rfl (rn_arith' rfl rfl rfl rfl rfl rfl (IntWalk.i64_in _ (by omega)) (by omega)) fun _ g => ?_;refine pk0 (v := .int .i64 ((i + 1 : Nat) : Int)) g rfl fun _ g => q1 ?_;refine ⟨(n51.toNat - (i + 1)), by omega, ?_⟩;have hR' := ofRows_step hR (by omega) hq278 hq353;have ho445 := ho356.new hg412;have ho446 := ho445.row (row_ne_lt hr432 (by omega)) hg431;have ho447 := ho446.at (by omega) hg440;have hr448 := row_kept_at hr430' hg440 (row_ne_lt hr430' (by omega));have hB449 := hb_at hB434 hg440 (by omega);have hk450 := hk87.kept hg190 (by simp);have hk451 := hk450.kept hg282 (by simp; omega);have hk452 := hk451.kept hg357 (by simp; omega);have hk453 := hk452.kept hg412 (by simp);have hk454 := hk453.kept hg431 (row_ne_lt hr432 (by omega));have hk455 := hk454.kept hg440 (by simp; omega);exact ⟨i + 1, v429, ls ++ [(n275, n350)], a351, e352, g.sub ⟨rfl, rfl, rfl, rfl, rfl, trivial⟩, rfl, by omega, by first | rfl | (simp; omega), by first | rfl | exact hR', hk438', ho447, (row_eq hr448 (rfl)), hB449, hk455⟩
set_option maxRecDepth 100000 in
theorem cPut_any (ep : Int) (mv : Value) (ms : List MemT) (fl : Int) (w : World) (hs : SliceOf memE 2 w mv ms) (hmk : ∀ m ∈ ms, memOk m) (he : -9223372036854775808 ≤ ep ∧ ep ≤ 9223372036854775807) (hf : 0 ≤ fl ∧ fl < 18446744073709551616) :
    Calls Try.prog 39 #[.agg #[.int .i64 ep, mv, .int .u64 fl]] w fun e w' => e = .returned (.tuple #[.string (putCf ep ms fl), .int .i64 (chkC ep ms)]) ∧ Below w.heap.size w w' := by
 have hcb : chkC ep ms = 0 → ((1 ≤ ep ∧ ep ≤ 1073741824) ∧ ms.length ≤ 4) := fun h => ⟨(chkC_ok h).1, (chkC_ok h).2.1.2⟩;have hB0 := Below.refl w.heap.size w;have hl_hs := sl_len hs;refine co_enter (n := 43) Try.func39 rfl rfl rfl [(0, .agg #[.int .i64 ep, mv, .int .u64 fl])] rfl (fun a s => ?_);refine q2 ?_;refine pw s rfl (op_new (v := fun N => pt N 0) (T := 26) (cs := #[.int .i64 ep, mv, .int .u64 fl]) (by kernel_rfl) (by kernel_rfl) (by kernel_rfl)) ?_;rintro _ w2 a1 ⟨N3, rfl, hN6, hz7, hk5, hg4⟩ s;have hz8 := hg4.size
 try dsimp only at s
 refine pk0 (v := .string (⟨#[]⟩)) s rfl fun _ s => ?_;refine pk0 (v := .int .i64 0) s rfl fun _ s => q6 ?_;refine pk (v := .agg #[.int .i64 ep, mv, .int .u64 fl]) s rfl (rn_loadN rfl rfl Try.underlying26 rfl (by kernel_rfl) hk5.all) fun _ s => ?_;have hB14 := hb_new hB0 hg4;refine pw s rfl (op_call (args := #[.agg #[.int .i64 ep, mv, .int .u64 fl]]) (R := fun res xw => res = .int .i64 (chkC ep ms) ∧ Below w2.heap.size w2 xw) rfl rfl rfl (by kernel_rfl) (by kernel_rfl) (Try.call58 _ _) (wcheck_any ep mv ms fl w2 (hs.below hB14) (by assumption) (by first | omega | (simp; done) | (simp; omega)) (by first | omega | (simp; done) | (simp; omega))) (by rintro e x ⟨rfl, hb15⟩; exact ⟨_, rfl, ⟨rfl, hb15⟩⟩)) ?_;rintro _ w13 a12 ⟨rfl, hb15⟩ s;have hz16 := hb15.size;refine pk0 (v := .int .i64 (chkC ep ms)) s rfl fun _ s => q3 ?_;refine pk0 (v := .int .i64 (chkC ep ms)) s rfl fun _ s => ?_;refine pk0 (v := .bool (chkC ep ms != 0)) s rfl fun _ s => q1 ?_;have hB21 := hb_call hB14 hb15;cases hc20 : (chkC ep ms != 0)
 ·
  rw [hc20] at s;have hp22 : ¬ (chkC ep ms ≠ 0) := by first | simpa using hc20 | simpa [and_assoc] using hc20
  refine co_false s rfl <| q0 <| co_seq ?_;refine dr_gen (fun x => Below w.heap.size w x ∧ Blk x N3 26 #[.int .i64 ep, mv, .int .u64 fl]) (by kernel_rfl) (fun w23 hg24 => ?_) (fun w23 hg24 => ?_)
  ·
   have hz25 := hg24.size;have hB26 := hb_new hB21 hg24;have hk27 := hk5.below hb15;have hk28 := hk27.kept hg24 (by simp);exact ⟨hB26, hk28⟩
  have hz29 := hg24.size;have hB30 := hb_new hB21 hg24;have hk31 := hk5.below hb15;have hk32 := hk31.kept hg24 (by simp);refine dk0 1 (v := pt N3 0) s rfl rfl ⟨hB30, hk32⟩ fun _ s => ?_;refine dk 2 (v := .int .i64 ep) s rfl rfl ⟨hB30, hk32⟩ (fun x hx => (rn_load1 rfl rfl Try.isAgg3 (hx.2.cell rfl))) fun _ s => ?_;refine dk0 4 (v := pt N3 1) s rfl rfl ⟨hB30, hk32⟩ fun _ s => ?_;refine dk 5 (v := mv) s rfl rfl ⟨hB30, hk32⟩ (fun x hx => (rn_load1 rfl rfl Try.isAgg24 (hx.2.cell rfl))) fun _ s => ?_;refine dk 6 (v := .int .i64 (ms.length : Int)) s rfl rfl ⟨hB30, hk32⟩ (fun x hx => (rn_len rfl rfl Try.underlying24 (hs.below hx.1))) fun _ s => ?_;refine d1 0 s rfl rfl (op_call (args := #[]) (R := fun res xw => ∃ b : Nat, res = pt b 0 ∧ b = w23.heap.size ∧ OW b [] 0 xw ∧ Below w23.heap.size w23 xw) rfl rfl rfl (by kernel_rfl) (by kernel_rfl) (Try.call12 _ _) (ow_new w23) (by rintro e x ⟨b, rfl, h0, h1, h2⟩; exact ⟨_, rfl, b, rfl, h0, h1, h2⟩)) ?_ ?_
  ·
   rintro _ w39 ⟨b40, rfl, hN41, ho42, hb43⟩;have hz44 := hb43.size;have hl45 := ho42.lt;have hB46 := hb_call hB30 hb43;have hk47 := hk32.below hb43;exact ⟨hB46, hk47⟩
  rintro _ w39 a38 ⟨b40, rfl, hN41, ho42, hb43⟩ s;have hz44 := hb43.size;have hl45 := ho42.lt;have hB46 := hb_call hB30 hb43;have hk47 := hk32.below hb43;refine d1 3 s rfl rfl (op_call (args := #[pt b40 0, .int .i64 ep]) (R := fun res xw => res = pt b40 0 ∧ OW b40 (([] : List UInt8) ++ putL ep) (0 + 9) xw ∧ But (Rw w39 b40) w39 xw) rfl rfl rfl (by kernel_rfl) (by kernel_rfl) (Try.call13 _ _) (ow_num b40 ([]) 0 ep w39 ho42 (by omega) (by omega) (by omega)) (by rintro e x ⟨rfl, h1, h2⟩; exact ⟨_, rfl, rfl, h1, h2⟩)) ?_ ?_
  ·
   rintro _ w49 ⟨rfl, ho50, hx51⟩;have hz52 := hx51.size;have hl53 := ho50.lt;have hB54 := hb_wr hB46 ho42 (by omega) hx51;have hk55 := blk_wr hk47 ho42 (by decide) (by omega) hx51;exact ⟨hB54, hk55⟩
  rintro _ w49 a48 ⟨rfl, ho50, hx51⟩ s;have hz52 := hx51.size;have hl53 := ho50.lt;have hB54 := hb_wr hB46 ho42 (by omega) hx51;have hk55 := blk_wr hk47 ho42 (by decide) (by omega) hx51;refine d1 7 s rfl rfl (op_call (args := #[pt b40 0, .int .i64 (ms.length : Int)]) (R := fun res xw => res = pt b40 0 ∧ OW b40 ((([] : List UInt8) ++ putL ep) ++ putL (ms.length : Int)) (0 + 9 + 9) xw ∧ But (Rw w49 b40) w49 xw) rfl rfl rfl (by kernel_rfl) (by kernel_rfl) (Try.call13 _ _) (ow_num b40 (([] : List UInt8) ++ putL ep) (0 + 9) (ms.length : Int) w49 ho50 (by omega) (by omega) (by omega)) (by rintro e x ⟨rfl, h1, h2⟩; exact ⟨_, rfl, rfl, h1, h2⟩)) ?_ ?_
  ·
   rintro _ w57 ⟨rfl, ho58, hx59⟩;have hz60 := hx59.size;have hl61 := ho58.lt;have hB62 := hb_wr hB54 ho50 (by omega) hx59;have hk63 := blk_wr hk55 ho50 (by decide) (by omega) hx59;exact ⟨hB62, hk63⟩
  rintro _ w57 a56 ⟨rfl, ho58, hx59⟩ s;have hz60 := hx59.size;have hl61 := ho58.lt;have hB62 := hb_wr hB54 ho50 (by omega) hx59;have hk63 := blk_wr hk55 ho50 (by decide) (by omega) hx59;refine dk0 8 (v := pt b40 0) s rfl rfl ⟨hB62, hk63⟩ fun _ s => ?_;refine dr_done (by kernel_rfl) ?_;refine co_then <| q9 ?_;refine pk0 (v := pt N3 1) s rfl fun _ s => ?_;refine pk (v := mv) s rfl (rn_load1 rfl rfl Try.isAgg24 (hk63.cell rfl)) fun _ s => ?_;refine pk (v := .int .i64 (ms.length : Int)) s rfl (rn_len rfl rfl Try.underlying24 (hs.below hB62)) fun _ s => ?_;refine pk0 (v := .int .i64 0) s rfl fun _ s => q1 <| wp_block ?_;have hck := (chkC_ok (ep := ep) (ms := ms) (by omega)).2.2.2;have s : Slots 43 [(1, pt N3 0), (2, .string (⟨#[]⟩)), (3, .int .i64 0), (5, pt b40 0), (22, mv), (23, .int .i64 (ms.length : Int)), (24, .int .i64 0)] _ := s.sub ⟨rfl, rfl, rfl, rfl, rfl, rfl, rfl, trivial⟩;refine co_loop (fun mm a x => ∃ (i : Nat), Slots 43 [(1, pt N3 0), (2, .string (⟨#[]⟩)), (3, .int .i64 0), (5, pt b40 0), (22, mv), (23, .int .i64 (ms.length : Int)), (24, .int .i64 (i : Int))] a ∧ mm = ms.length - i ∧ (i ≤ ms.length) ∧ OW b40 (putL ep ++ putL (ms.length : Int) ++ putM (ms.take i)) (18 + i * 18) x ∧ Below w.heap.size w x ∧ Blk x N3 26 #[.int .i64 ep, mv, .int .u64 fl]) (ms.length - 0) ?_ ?_
  · exact ⟨0, s.sub ⟨rfl, rfl, rfl, rfl, rfl, rfl, (slot_eq rfl (congrArg (Value.int .i64) (by first | rfl | omega))), trivial⟩, rfl, by omega, (ho58.eq (by first | (simp [putM]; done) | (rw [takeM_at (by assumption)]; simp [putM])) (by first | omega | (simp; done) | (simp; omega))), hB62, hk63⟩
  · rintro k70 a71 w72 ⟨i, s, rfl, hi73, hf74, hB75, hk76⟩
    have hz77 := hB75.size;have hl78 := hk76.lt;have hl79 := hf74.lt;refine q2 ?_;refine pk0 (v := .bool (decide ((i : Int) < (ms.length : Int)))) s rfl fun _ s => q1 <| co_seq ?_;cases hc81 : (decide ((i : Int) < (ms.length : Int)))
    ·
     rw [hc81] at s;have hp82 : ¬ ((i : Int) < (ms.length : Int)) := of_decide_eq_false hc81;refine co_false s rfl <| wp_exit <| co_thenX <| co_thenX <| qx <| q2 ?_;refine pk0 (v := pt b40 0) s rfl fun _ s => ?_;refine pk0 (v := pt N3 2) s rfl fun _ s => ?_;refine pk (v := .int .u64 fl) s rfl (rn_load1 rfl rfl Try.isAgg22 (hk76.cell rfl)) fun _ s => ?_;refine pw s rfl (op_call (args := #[pt b40 0, .int .u64 fl]) (R := fun res xw => res = pt b40 0 ∧ OW b40 ((putL ep ++ putL (ms.length : Int) ++ putM (ms.take i)) ++ putL fl) (18 + i * 18 + 9) xw ∧ But (Rw w72 b40) w72 xw) rfl rfl rfl (by kernel_rfl) (by kernel_rfl) (Try.call35 _ _) (ow_big b40 (putL ep ++ putL (ms.length : Int) ++ putM (ms.take i)) (18 + i * 18) fl w72 hf74 (by omega) (by omega) (by omega)) (by rintro e x ⟨rfl, h1, h2⟩; exact ⟨_, rfl, rfl, h1, h2⟩)) ?_;rintro _ w87 a86 ⟨rfl, ho88, hx89⟩ s;have hz90 := hx89.size;have hl91 := ho88.lt;refine pw s rfl (op_call (args := #[pt b40 0]) (R := fun res xw => res = .tuple #[.string (⟨((putL ep ++ putL (ms.length : Int) ++ putM (ms.take i)) ++ putL fl).toArray⟩), .int .i64 0] ∧ Below w87.heap.size w87 xw) rfl rfl rfl (by kernel_rfl) (by kernel_rfl) (Try.call16 _ _) (ow_done b40 ((putL ep ++ putL (ms.length : Int) ++ putM (ms.take i)) ++ putL fl) (18 + i * 18 + 9) w87 ho88) (by rintro e x ⟨rfl, h2⟩; exact ⟨_, rfl, rfl, h2⟩)) ?_;rintro _ w93 a92 ⟨rfl, hb94⟩ s;have hz95 := hb94.size;refine pk0 (v := .string (⟨((putL ep ++ putL (ms.length : Int) ++ putM (ms.take i)) ++ putL fl).toArray⟩)) s rfl fun _ s => ?_;refine pk0 (v := .int .i64 0) s rfl fun _ s => ?_;refine pk0 (v := .string (⟨((putL ep ++ putL (ms.length : Int) ++ putM (ms.take i)) ++ putL fl).toArray⟩)) s rfl fun _ s => ?_;refine pk0 (v := .int .i64 0) s rfl fun _ s => q4 ?_;refine co_ret2 s rfl rfl rfl ?_;have hB100 := hb_wr hB75 hf74 (by omega) hx89;have hB101 := hb_call hB100 hb94;exact ⟨by rw [putCf_ok (by omega), show chkC ep ms = 0 by omega, List.take_of_length_le (show ms.length ≤ i by omega)]; simp [putC], hB101⟩
    rw [hc81] at s;have hp102 : (i : Int) < (ms.length : Int) := of_decide_eq_true hc81;refine co_true s rfl <| q0 <| co_seq <| wp_block <| q2 ?_;obtain ⟨y103, hy103⟩ : ∃ z, ms[i]? = some z := ⟨_, List.getElem?_eq_getElem (by first | omega | (simp; done) | (simp; omega))⟩;have oky103 := hck _ (List.mem_of_getElem? hy103);have k104 : (0 ≤ y103.1 ∧ y103.1 < 4) ∧ (1 ≤ y103.2 ∧ y103.2 ≤ 1073741824) := oky103;refine pk (v := pt (blkOf mv) (offOf mv + i * 2)) s rfl (rn_index rfl rfl rfl Try.underlying24 Try.sizeOf102 (hs.below hB75) (by omega) (by first | omega | (simp; done) | (simp; omega))) fun _ s => ?_;refine pk (v := .agg #[.int .i64 y103.1, .int .i64 y103.2]) s rfl (rn_loadN rfl rfl Try.underlying102 rfl (by kernel_rfl) (sl_at (hs.below hB75) hy103)) fun _ s => ?_;refine pw s rfl (op_new (v := fun N => pt N 0) (T := 102) (cs := #[.int .i64 0, .int .i64 0]) (by kernel_rfl) (by kernel_rfl) (by kernel_rfl)) ?_;rintro _ w108 a107 ⟨N109, rfl, hN112, hz113, hk111, hg110⟩ s;have hz114 := hg110.size
    try dsimp only at s
    refine pwD s rfl (op_storeN rfl rfl rfl (by kernel_rfl) (by kernel_rfl) hk111 rfl) ?_;rintro _ w116 a115 ⟨hk117, hz118, hg119⟩ s;have hk117' : Blk w116 N109 102 #[.int .i64 y103.1, .int .i64 y103.2] := hk117;have hz120 := hg119.size;refine q1 ?_;refine dr_gen (fun x => Below w.heap.size w x ∧ Blk x N109 102 #[.int .i64 y103.1, .int .i64 y103.2]) (by kernel_rfl) (fun w121 hg122 => ?_) (fun w121 hg122 => ?_)
    ·
     have hz123 := hg122.size;have hB124 := hb_new hB75 hg110;have hB125 := hb_at hB124 hg119 (by omega);have hB126 := hb_new hB125 hg122;have hk127 := hk117'.kept hg122 (by simp);exact ⟨hB126, hk127⟩
    have hz128 := hg122.size;have hB129 := hb_new hB75 hg110;have hB130 := hb_at hB129 hg119 (by omega);have hB131 := hb_new hB130 hg122;have hk132 := hk117'.kept hg122 (by simp);refine dk0 0 (v := pt b40 0) s rfl rfl ⟨hB131, hk132⟩ fun _ s => ?_;refine dk0 1 (v := pt N109 0) s rfl rfl ⟨hB131, hk132⟩ fun _ s => ?_;refine dk 2 (v := .int .i64 y103.1) s rfl rfl ⟨hB131, hk132⟩ (fun x hx => (rn_load1 rfl rfl Try.isAgg3 (hx.2.cell rfl))) fun _ s => ?_;refine dk0 4 (v := pt N109 1) s rfl rfl ⟨hB131, hk132⟩ fun _ s => ?_;refine dk 5 (v := .int .i64 y103.2) s rfl rfl ⟨hB131, hk132⟩ (fun x hx => (rn_load1 rfl rfl Try.isAgg3 (hx.2.cell rfl))) fun _ s => ?_;have ho142 := hf74.new hg110;have ho143 := ho142.at hk111 (by decide) (by omega) hg119;have ho144 := ho143.new hg122;refine d1 3 s rfl rfl (op_call (args := #[pt b40 0, .int .i64 y103.1]) (R := fun res xw => res = pt b40 0 ∧ OW b40 ((putL ep ++ putL (ms.length : Int) ++ putM (ms.take i)) ++ putL y103.1) (18 + i * 18 + 9) xw ∧ But (Rw w121 b40) w121 xw) rfl rfl rfl (by kernel_rfl) (by kernel_rfl) (Try.call13 _ _) (ow_num b40 (putL ep ++ putL (ms.length : Int) ++ putM (ms.take i)) (18 + i * 18) y103.1 w121 ho144 (by omega) (by omega) (by omega)) (by rintro e x ⟨rfl, h1, h2⟩; exact ⟨_, rfl, rfl, h1, h2⟩)) ?_ ?_
    ·
     rintro _ w139 ⟨rfl, ho140, hx141⟩;have hz145 := hx141.size;have hl146 := ho140.lt;have hB147 := hb_wr hB131 ho144 (by omega) hx141;have hk148 := blk_wr hk132 ho144 (by decide) (by omega) hx141;exact ⟨hB147, hk148⟩
    rintro _ w139 a138 ⟨rfl, ho140, hx141⟩ s;have hz145 := hx141.size;have hl146 := ho140.lt;have hB147 := hb_wr hB131 ho144 (by omega) hx141;have hk148 := blk_wr hk132 ho144 (by decide) (by omega) hx141;refine d1 6 s rfl rfl (op_call (args := #[pt b40 0, .int .i64 y103.2]) (R := fun res xw => res = pt b40 0 ∧ OW b40 (((putL ep ++ putL (ms.length : Int) ++ putM (ms.take i)) ++ putL y103.1) ++ putL y103.2) (18 + i * 18 + 9 + 9) xw ∧ But (Rw w139 b40) w139 xw) rfl rfl rfl (by kernel_rfl) (by kernel_rfl) (Try.call13 _ _) (ow_num b40 ((putL ep ++ putL (ms.length : Int) ++ putM (ms.take i)) ++ putL y103.1) (18 + i * 18 + 9) y103.2 w139 ho140 (by omega) (by omega) (by omega)) (by rintro e x ⟨rfl, h1, h2⟩; exact ⟨_, rfl, rfl, h1, h2⟩)) ?_ ?_
    ·
     rintro _ w150 ⟨rfl, ho151, hx152⟩;have hz153 := hx152.size;have hl154 := ho151.lt;have hB155 := hb_wr hB147 ho140 (by omega) hx152;have hk156 := blk_wr hk148 ho140 (by decide) (by omega) hx152;exact ⟨hB155, hk156⟩
    rintro _ w150 a149 ⟨rfl, ho151, hx152⟩ s;have hz153 := hx152.size;have hl154 := ho151.lt;refine dr_done (by kernel_rfl) ?_;refine co_blockN <| co_then <| co_reg ?_;refine pk (v := .int .i64 ((i + 1 : Nat) : Int)) s rfl (rn_arith' rfl rfl rfl rfl rfl rfl (IntWalk.i64_in _ (by omega)) (by omega)) fun _ s => ?_;refine pk0 (v := .int .i64 ((i + 1 : Nat) : Int)) s rfl fun _ s => q1 ?_;refine ⟨(ms.length - (i + 1)), by omega, ?_⟩;have hB157 := hb_wr hB147 ho140 (by omega) hx152;have hk158 := hk76.kept hg110 (by simp);have hk159 := hk158.kept hg119 (by simp; omega);have hk160 := hk159.kept hg122 (by simp);have hk161 := blk_wr hk160 ho144 (by decide) (by omega) hx141;have hk162 := blk_wr hk161 ho140 (by decide) (by omega) hx152;exact ⟨i + 1, s.sub ⟨rfl, rfl, rfl, rfl, rfl, rfl, rfl, trivial⟩, rfl, by omega, (ho151.eq (by first | (simp [putM]; done) | (rw [takeM_at (by assumption)]; simp [putM])) (by first | omega | (simp; done) | (simp; omega))), hB157, hk162⟩
 rw [hc20] at s;have hp163 : chkC ep ms ≠ 0 := by first | simpa using hc20 | simpa [and_assoc] using hc20
 refine co_true s rfl <| q2 ?_;refine pk0 (v := .int .i64 (chkC ep ms)) s rfl fun _ s => ?_;refine pk0 (v := .string (⟨#[]⟩)) s rfl fun _ s => ?_;refine pk0 (v := .int .i64 (chkC ep ms)) s rfl fun _ s => q5 ?_;refine co_ret2 s rfl rfl rfl ?_;exact ⟨by rw [putCf_err (by assumption)], hB21⟩
end Go.Proofs.Ytcbagajjgbfgdaa

/- Slices of any elements that came in, opened by their readings. Conditions: none. -/
namespace Go.Proofs.Ytcbagajjgbfgdaa
open Go.RowKit Go.ChangeShapes Go.WideShapes Go.Deep

section
variable {H : Type} {enc : TypeId × Value → H} {P : Program} {w : World} {base : Nat} {spare : Nat → Bool} {held : Bool}
theorem open_rows {α : Type} [Inhabited α] {t e : TypeId} {fuel : Nat} {cs : List Value} {x : DataW H × List MemPlace} (E : α → List Value) (sz : Nat) (good : α → Prop)
    (ht : P.underlying t = some (.slice e)) (hC : P.cellsOf e = sz) (hpos : 0 < sz)
    (elem : ∀ n cs x, DataW.trod enc P w base spare held n e cs = some x → ∃ a : α, cs = E a ∧ good a)
    (h : DataW.trod enc P w base spare held fuel t cs = some x) :
    ∃ (l : List α) (v : Value), cs = [v] ∧ SliceOf E sz w v l ∧ ∀ a ∈ l, good a := by
  rcases open_slice ht h with ⟨hcs, _⟩ | ⟨a, len, cap, m, n, D, Pl, hcs, _, hl, hm, hmm, _, hi⟩
  · exact ⟨[], _, hcs, SliceOf.nil _ _ _, by simp⟩
  · have hlm : len ≤ m := by rw [hmm]; split <;> omega
    rw [hC] at hi
    obtain ⟨f, hf⟩ := choose_lt (α := α) (n := len) (p := fun i y => (∀ j u, (E y)[j]? = some u → w.cell? ((a.add (i * sz)).add j) = some u) ∧ good y ∧ (E y).length = sz) (fun i hilt => by
      obtain ⟨cs', hc, ht'⟩ := hi i (by omega)
      obtain ⟨y, rfl, hg⟩ := elem n cs' _ ht'
      obtain ⟨_, hcl, hat⟩ := World.cells?_some hc
      exact ⟨y, fun j u hu => by
        have hj : j < (E y).length := (List.getElem?_eq_some_iff.1 hu).1
        rw [hat j (by omega), hu], hg, hcl⟩)
    refine ⟨(List.range len).map f, _, hcs, ⟨some a, cap, by simp, by simpa using hl, by unfold maxLen at hm; omega, fun h => (by cases h), fun j hj => ?_⟩, fun y hy => ?_⟩
    · have hj' : j < len := by simpa using hj
      obtain ⟨b, off, spot⟩ := a
      have hspot : spot = none := by
        obtain ⟨h1, _, h3⟩ := hf 0 (by omega)
        have hc0 := h1 0 _ (List.getElem?_eq_getElem (show 0 < (E (f 0)).length by omega))
        simpa [Addr.add] using World.cell?_spot hc0
      subst hspot
      refine ⟨b, off, rfl, fun i u hu => ?_⟩
      have := (hf j hj').1 i u (by simpa using hu)
      rw [Addr.add_lit, Addr.add_lit] at this
      exact this
    · obtain ⟨i, hi', rfl⟩ := List.mem_map.1 hy
      exact (hf i (List.mem_range.1 hi')).2.1
/-- A struct of one-cell fields: each field's cell, and its reading. -/
theorem trod_fields {t : TypeId} {fs : Array Field} {fuel : Nat} {cs : List Value} {x : DataW H × List MemPlace} (hs : P.underlying t = some (.struct fs)) (hone : oneCellFields P fs = true) (hC : P.cellsOf t = fs.size)
    (h : DataW.trod enc P w base spare held fuel t cs = some x) :
    cs.length = fs.size ∧ ∃ m, ∀ (j : Nat) (f : Field), fs[j]? = some f → ∃ c y, cs[j]? = some c ∧ DataW.trod enc P w base spare held m f.type [c] = some y := by
  obtain ⟨xs, m, _, _, hl, hx, hf⟩ := DataW.trod_struct hs h
  rw [hC] at hl
  refine ⟨hl, m, fun j f hj => ?_⟩
  have hjl : j < fs.size := (Array.getElem?_eq_some_iff.1 hj).1
  obtain ⟨o, k⟩ := hone_of hone j f hj
  have h1 := hf j f hj
  rw [o, k, List.drop_eq_getElem_cons (by omega), List.take_succ_cons, List.take_zero, List.getElem?_eq_getElem (by omega)] at h1
  exact ⟨_, _, List.getElem?_eq_getElem (by omega), h1⟩
end
end Go.Proofs.Ytcbagajjgbfgdaa

/- Entries of a log that came in (over the texts of ops): a batch (client, request, operations), a timestamp; with how much they hold. Conditions: none. -/
namespace Go.Proofs.Ytcbagajjgbfgdaa
open Go.RowKit Go.ChangeShapes Go.WideShapes Go.Deep Go.PlainAid

def opOk (o : OpT) : Prop := o.1.size ≤ 9223372036854775807 ∧ o.2.1.size ≤ 9223372036854775807
/-- An entry: client, request, the operations' slice as a value and as a list, timestamp. -/
structure EntT where
  client : Int
  req : Int
  ops : Value
  opl : List OpT
  ts : Int
instance : Inhabited EntT := ⟨⟨0, 0, .slice none 0 0, [], 0⟩⟩
def entE (e : EntT) : List Value := [.int .i64 e.client, .int .i64 e.req, e.ops, .int .u64 e.ts]
/-- What is known of an entry that came in. -/
structure EntOk (w : World) (e : EntT) : Prop where
  ops : SliceOf opE 3 w e.ops e.opl
  each : ∀ o ∈ e.opl, opOk o
  ts0 : 0 ≤ e.ts
  ts1 : e.ts < 18446744073709551616
  cl : (Lit.int .i64 e.client).wf = true
  rq : (Lit.int .i64 e.req).wf = true
theorem EntOk.below {w w' : World} {e : EntT} (h : EntOk w e) (hb : Below w.heap.size w w') : EntOk w' e := ⟨h.ops.below hb, h.each, h.ts0, h.ts1, h.cl, h.rq⟩
section
variable {H : Type} {enc : TypeId × Value → H} {w : World} {base : Nat} {spare : Nat → Bool} {held : Bool}
set_option maxRecDepth 10000 in
theorem elem_opS (n : Nat) (cs : List Value) (x : DataW H × List MemPlace) (h : DataW.trod enc Try.prog w base spare held n 115 cs = some x) : ∃ p : OpT, cs = opE p ∧ opOk p := by
  obtain ⟨hl, m, hf⟩ := trod_fields Try.underlying115 (by kernel_rfl) (by kernel_rfl) h
  have hl3 : cs.length = 3 := hl
  clear hl
  match cs, hl3 with
  | [c0, c1, c2], _ =>
    obtain ⟨_, y0, e0, h0⟩ := hf 0 _ rfl
    obtain ⟨_, y1, e1, h1⟩ := hf 1 _ rfl
    obtain ⟨_, y2, e2, h2⟩ := hf 2 _ rfl
    cases e0; cases e1; cases e2
    obtain ⟨a, e0, _, w0⟩ := DataW.trod_string Try.underlying9 h0
    obtain ⟨b, e1, _, w1⟩ := DataW.trod_string Try.underlying9 h1
    obtain ⟨c, e2, _⟩ := DataW.trod_bool Try.underlying4 h2
    simp only [List.cons.injEq, and_true] at e0 e1 e2
    subst e0 e1 e2
    exact ⟨(a, b, c), rfl, by unfold maxLen at w0; exact w0, by unfold maxLen at w1; exact w1⟩
theorem open_opsS {fuel : Nat} {cs : List Value} {x : DataW H × List MemPlace} (h : DataW.trod enc Try.prog w base spare held fuel 27 cs = some x) :
    ∃ (l : List OpT) (v : Value), cs = [v] ∧ SliceOf opE 3 w v l ∧ ∀ p ∈ l, opOk p :=
  open_rows opE 3 opOk Try.underlying27 (by kernel_rfl) (by omega) elem_opS h
set_option maxRecDepth 10000 in
theorem elem_ent (n : Nat) (cs : List Value) (x : DataW H × List MemPlace) (h : DataW.trod enc Try.prog w base spare held n 66 cs = some x) : ∃ e, cs = entE e ∧ EntOk w e := by
  obtain ⟨xs, m, _, _, hl, hxl, hf⟩ := DataW.trod_struct Try.underlying66 h
  have hl4 : cs.length = 4 := hl
  have hx2 : xs.length = 2 := hxl
  clear hl hxl
  match cs, hl4 with
  | [c0, c1, c2, c3], _ =>
    have h0 := hf 0 _ rfl
    have h1 := hf 1 _ rfl
    obtain ⟨y0, hy0⟩ : ∃ y, xs[0]? = some y := ⟨_, List.getElem?_eq_getElem (by omega)⟩
    obtain ⟨y1, hy1⟩ : ∃ y, xs[1]? = some y := ⟨_, List.getElem?_eq_getElem (by omega)⟩
    rw [hy0] at h0
    rw [hy1] at h1
    have h0' : DataW.trod enc Try.prog w base spare held m 29 [c0, c1, c2] = some y0 := h0
    have h1' : DataW.trod enc Try.prog w base spare held m 22 [c3] = some y1 := h1
    obtain ⟨ts, e3, _, w3⟩ := DataW.trod_int Try.underlying22 h1'
    obtain ⟨_, m2, hf2⟩ := trod_fields Try.underlying29 (by kernel_rfl) (by kernel_rfl) h0'
    obtain ⟨_, z0, e0, g0⟩ := hf2 0 _ rfl
    obtain ⟨_, z1, e1, g1⟩ := hf2 1 _ rfl
    obtain ⟨_, z2, e2, g2⟩ := hf2 2 _ rfl
    cases e0; cases e1; cases e2
    obtain ⟨a, e0, _, w0⟩ := DataW.trod_int Try.underlying3 g0
    obtain ⟨b, e1, _, w1⟩ := DataW.trod_int Try.underlying3 g1
    obtain ⟨l, v, e2, hs, hall⟩ := open_opsS g2
    simp only [List.cons.injEq, and_true] at e0 e1 e2 e3
    subst e0 e1 e2 e3
    have := wf_u64 w3
    exact ⟨⟨a, b, c2, l, ts⟩, rfl, ⟨hs, hall, this.1, this.2, w0, w1⟩⟩
theorem open_ents {fuel : Nat} {cs : List Value} {x : DataW H × List MemPlace} (h : DataW.trod enc Try.prog w base spare held fuel 30 cs = some x) :
    ∃ (l : List EntT) (v : Value), cs = [v] ∧ SliceOf entE 4 w v l ∧ ∀ p ∈ l, EntOk w p :=
  open_rows entE 4 (EntOk w) Try.underlying30 (by kernel_rfl) (by omega) elem_ent h
end
section
variable {H : Type} {enc : TypeId × Value → H} {P : Program} {w : World} {base : Nat} {spare : Nat → Bool} {held : Bool}
end
section
variable {H : Type} {enc : TypeId × Value → H} {w : World} {base : Nat} {spare : Nat → Bool} {held : Bool}
end

end Go.Proofs.Ytcbagajjgbfgdaa

/- Maps that the call makes: a list of keys and values; lookups, stores, deletes, lengths. Conditions: none. -/
namespace Go.Proofs.Ytcbagajjgbfgdaa
open Go.RowKit

section
variable {K : Type} [DecidableEq K]
/-- The place and the value of a key. -/
def lookK (a : K) : List (K × Value) → Nat → Option (Nat × Value)
  | [], _ => none
  | p :: r, i => if a = p.1 then some (i, p.2) else lookK a r (i + 1)
def getK (l : List (K × Value)) (a : K) : Option Value := (lookK a l 0).map (·.2)
@[simp] theorem getK_nil (b : K) : getK ([] : List (K × Value)) b = none := rfl
end

section
variable {K : Type}
variable {P : Program} {n : Nat} {m : List (Nat × Value)} {w x : World} {o : Oper} {B : Nat} {l : List (K × Value)} {kv : K → Value} {kt e t : TypeId} {q r : Operand} {a : K}
/-- Block B is a map that holds just these entries. -/
def MapB (kv : K → Value) (w : World) (B : Nat) (l : List (K × Value)) : Prop :=
  ∃ es clock, w.heap[B]? = some (.map es clock) ∧ es.toList.map (fun e => (e.key, e.val)) = l.map (fun p => (kv p.1, p.2)) ∧ (l.map (·.1)).Nodup ∧ (es.toList.map (·.born)).Nodup ∧ ∀ e ∈ es.toList, e.born < clock
theorem MapB.lt (h : MapB kv w B l) : B < w.heap.size := by obtain ⟨_, _, h, _⟩ := h; exact (Array.getElem?_eq_some_iff.1 h).1
theorem MapB.keys (h : MapB kv w B l) : (l.map (·.1)).Nodup := by obtain ⟨_, _, _, _, h, _⟩ := h; exact h
theorem MapB.kept {row : Option Nat} (h : MapB kv w B l) (hg : w.grownBy x row) (hne : row ≠ some B) : MapB kv x B l := by
  obtain ⟨es, c, h1, h2⟩ := h
  exact ⟨es, c, by rw [hg.block B (Array.getElem?_eq_some_iff.1 h1).1 (fun e => hne e.symm)]; exact h1, h2⟩
theorem MapB.below (h : MapB kv w B l) (hb : Below w.heap.size w x) : MapB kv x B l := h.kept (below_grown hb) (by simp)
end

section
variable {K : Type} [DecidableEq K]
variable {P : Program} {n : Nat} {m : List (Nat × Value)} {w x : World} {o : Oper} {B : Nat} {l : List (K × Value)} {kv : K → Value} {kt e t : TypeId} {q r : Operand} {a : K}
end
end Go.Proofs.Ytcbagajjgbfgdaa

/- Maps that the call makes, told by a function that says what each key has (a default for those that are not there). Conditions: none. -/
namespace Go.Proofs.Ytcbagajjgbfgdaa
open Go.RowKit

section
variable {K V : Type} {P : Program} {n : Nat} {m : List (Nat × Value)} {w x : World} {o : Oper} {B : Nat} {kv : K → Value} {kt e t : TypeId} {q r : Operand} {a : K} {enc : V → Value} {z : V} {g : K → V}

/-- Block B is a map; a key a has g a (z, if it is not there). -/
def MapG [DecidableEq K] (kv : K → Value) (enc : V → Value) (z : V) (w : World) (B : Nat) (g : K → V) : Prop := ∃ l, MapB kv w B l ∧ ∀ a, (getK l a).getD (enc z) = enc (g a)
variable [DecidableEq K]
theorem MapG.lt (h : MapG kv enc z w B g) : B < w.heap.size := by obtain ⟨l, h, _⟩ := h; exact h.lt
theorem MapG.kept {row : Option Nat} (h : MapG kv enc z w B g) (hg : w.grownBy x row) (hne : row ≠ some B) : MapG kv enc z x B g := by
  obtain ⟨l, h1, h2⟩ := h; exact ⟨l, h1.kept hg hne, h2⟩
theorem MapG.below (h : MapG kv enc z w B g) (hb : Below w.heap.size w x) : MapG kv enc z x B g := h.kept (below_grown hb) (by simp)
theorem MapG.row {B' : Nat} {T : TypeId} {sz k : Nat} {v : Value} {xs : List Value} (h : MapG kv enc z w B g) (hr : w.ownsRow B' T sz v k xs) : v.ownBlock ≠ some B := by
  intro e1
  obtain ⟨l, ⟨es, c, h1, _⟩, _⟩ := h
  rcases hr.2 with ⟨rfl, _⟩ | ⟨g1, _, _, rfl, _, hg1, _⟩
  · simp [Value.ownBlock] at e1
  · simp [Value.ownBlock] at e1
    subst e1; rw [h1] at hg1; cases hg1
end
end Go.Proofs.Ytcbagajjgbfgdaa

/- Package item: Check, Put, Same, Twins, Of of both. Conditions: none. -/
namespace Go.Proofs.Ytcbagajjgbfgdaa
open Go.RowKit Go.PlainAid
set_option linter.unusedVariables false


theorem putB_small {c r : Int} {l : List OpT} : (putB c r l).size ≤ 200 := by
  by_cases h : chkB c r l = 0
  · obtain ⟨_, _, hl, _⟩ := chkB_ok h
    have hok := chkB_all h
    rw [putB_ok h]
    show (putH c r l ++ putOs l).length ≤ _
    have h1 := putL_le c; have h2 := putL_le r; have h3 := putL_le ((l.length : Nat) : Int)
    have h4 : ∀ l : List OpT, (∀ z ∈ l, OpOk z) → (putOs l).length ≤ 40 * l.length := fun l => by
      induction l with
      | nil => intro _; simp [putOs]
      | cons z r ih =>
        intro hz
        have := ih (fun y hy => hz y (List.mem_cons_of_mem _ hy))
        obtain ⟨⟨_, k1⟩, k2, _⟩ := hz z (by simp)
        have k3 := putL_le (z.1.size : Int); have k4 := putL_le (z.2.1.size : Int)
        have e : putOs (z :: r) = putO1 z ++ putOs r := by simp [putOs]
        rw [e, List.length_append, List.length_cons]
        have : (putO1 z).length ≤ 40 := by unfold putO1; simp only [List.length_append, List.length_singleton, Array.length_toList, ByteArray.size_data]; omega
        omega
    have h5 := h4 l hok
    unfold putH; simp only [List.length_append]; omega
  · rw [putB_err h]; decide
/-- The bytes of an entry; what is read. -/
def putEL (c r : Int) (l : List OpT) (ts : Int) : List UInt8 := putL ts ++ (putL ((putB c r l).size : Int) ++ (putB c r l).data.toList)
def putE (c r : Int) (l : List OpT) (ts : Int) : ByteArray := if chkB c r l = 0 then ⟨(putEL c r l ts).toArray⟩ else ⟨#[]⟩
theorem putE_ok {c r ts : Int} {l : List OpT} (h : chkB c r l = 0) : putE c r l ts = ⟨(putEL c r l ts).toArray⟩ := by unfold putE; rw [if_pos h]
theorem putE_err {c r ts : Int} {l : List OpT} (h : chkB c r l ≠ 0) : putE c r l ts = ⟨#[]⟩ := by unfold putE; rw [if_neg h]
theorem putE_small {c r ts : Int} {l : List OpT} : (putE c r l ts).size ≤ 220 := by
  by_cases h : chkB c r l = 0
  · rw [putE_ok h]
    show (putEL c r l ts).length ≤ _
    have h1 := putL_le ts; have h2 := putL_le ((putB c r l).size : Int); have h3 := putB_small (c := c) (r := r) (l := l)
    unfold putEL; simp only [List.length_append, Array.length_toList, ByteArray.size_data]; omega
  · rw [putE_err h]; decide
def ofEndE (n : Int) (t : ByteArray) (x : Int) : (Int × Int × List OpT × Int) × Int :=
  if x ≠ 0 then ((0, 0, [], 0), x) else if (ofB t).2 ≠ 0 then ((0, 0, [], 0), (ofB t).2) else (((ofB t).1.1, (ofB t).1.2.1, (ofB t).1.2.2, n), 0)
def ofE (s : ByteArray) : (Int × Int × List OpT × Int) × Int :=
  let t := bigR s 0 0
  let u := textR s t.2.1 t.2.2 65536
  ofEndE t.1 u.1 (endV s u.2.1.toNat u.2.2)
theorem ofE_at {s t : ByteArray} {n a1 e1 a2 e2 x : Int} (h1 : bigR s 0 0 = (n, a1, e1)) (h2 : textR s a1 e1 65536 = (t, a2, e2)) (h3 : endV s a2.toNat e2 = x) : ofE s = ofEndE n t x := by simp only [ofE, h1, h2, h3]
theorem ofEndE_a {n x : Int} {t : ByteArray} (h : x ≠ 0) : ofEndE n t x = ((0, 0, [], 0), x) := by unfold ofEndE; rw [if_pos h]
theorem ofEndE_b {n x : Int} {t : ByteArray} (h : ¬ x ≠ 0) (h1 : (ofB t).2 ≠ 0) : ofEndE n t x = ((0, 0, [], 0), (ofB t).2) := by unfold ofEndE; rw [if_neg h, if_pos h1]
theorem ofEndE_c {n x : Int} {t : ByteArray} (h : ¬ x ≠ 0) (h1 : ¬ (ofB t).2 ≠ 0) : ofEndE n t x = (((ofB t).1.1, (ofB t).1.2.1, (ofB t).1.2.2, n), 0) := by unfold ofEndE; rw [if_neg h, if_neg h1]
theorem MapG.eq {K V : Type} [DecidableEq K] {kv : K → Value} {enc : V → Value} {z : V} {w : World} {B : Nat} {g g' : K → V} (h : MapG kv enc z w B g) (e : g = g') : MapG kv enc z w B g' := e ▸ h

set_option maxRecDepth 100000 in
theorem itemCheck_any (c : Int) (r : Int) (v : Value) (l : List OpT) (ts : Int) (w : World) (hs : SliceOf opE 3 w v l) :
    Calls Try.prog 61 #[.agg #[.int .i64 c, .int .i64 r, v, .int .u64 ts]] w fun e w' => e = .returned (.int .i64 (chkB c r l)) ∧ Below w.heap.size w w' := by
 have hB0 := Below.refl w.heap.size w;have hl_hs := sl_len hs;refine co_enter (n := 6) Try.func61 rfl rfl rfl [(0, .agg #[.int .i64 c, .int .i64 r, v, .int .u64 ts])] rfl (fun a s => ?_);refine q2 ?_;refine pw s rfl (op_new (v := fun N => pt N 0) (T := 66) (cs := #[.int .i64 c, .int .i64 r, v, .int .u64 ts]) (by kernel_rfl) (by kernel_rfl) (by kernel_rfl)) ?_;rintro _ w2 a1 ⟨N3, rfl, hN6, hz7, hk5, hg4⟩ s;have hz8 := hg4.size
 try dsimp only at s
 refine pk0 (v := .int .i64 0) s rfl fun _ s => q3 ?_;refine pk0 (v := pt N3 0) s rfl fun _ s => ?_;refine pk (v := .agg #[.int .i64 c, .int .i64 r, v]) s rfl (rn_loadN rfl rfl Try.underlying29 rfl (by kernel_rfl) (blk_part hk5 0 (by rfl))) fun _ s => ?_;have hB14 := hb_new hB0 hg4;refine pw s rfl (op_call (args := #[.agg #[.int .i64 c, .int .i64 r, v]]) (R := fun res xw => res = .int .i64 (chkB c r l) ∧ Below w2.heap.size w2 xw) rfl rfl rfl (by kernel_rfl) (by kernel_rfl) (Try.call59 _ _) (opsCheck_any c r v l w2 (hs.below hB14)) (by rintro e x ⟨rfl, hb15⟩; exact ⟨_, rfl, ⟨rfl, hb15⟩⟩)) ?_;rintro _ w13 a12 ⟨rfl, hb15⟩ s;have hz16 := hb15.size;refine pk0 (v := .int .i64 (chkB c r l)) s rfl fun _ s => q4 ?_;refine co_ret1 s rfl rfl ?_;have hB18 := hb_call hB14 hb15;exact ⟨rfl, hB18⟩
set_option maxRecDepth 100000 in
theorem itemPut_any (c : Int) (r : Int) (v : Value) (l : List OpT) (ts : Int) (w : World) (hs : SliceOf opE 3 w v l) (hts : 0 ≤ ts ∧ ts < 18446744073709551616) :
    Calls Try.prog 41 #[.agg #[.int .i64 c, .int .i64 r, v, .int .u64 ts]] w fun e w' => e = .returned (.tuple #[.string (putE c r l ts), .int .i64 (chkB c r l)]) ∧ Below w.heap.size w w' := by
 have hsm := putB_small (c := c) (r := r) (l := l);have hB0 := Below.refl w.heap.size w;have hl_hs := sl_len hs;refine co_enter (n := 24) Try.func41 rfl rfl rfl [(0, .agg #[.int .i64 c, .int .i64 r, v, .int .u64 ts])] rfl (fun a s => ?_);refine q2 ?_;refine pw s rfl (op_new (v := fun N => pt N 0) (T := 66) (cs := #[.int .i64 c, .int .i64 r, v, .int .u64 ts]) (by kernel_rfl) (by kernel_rfl) (by kernel_rfl)) ?_;rintro _ w2 a1 ⟨N3, rfl, hN6, hz7, hk5, hg4⟩ s;have hz8 := hg4.size
 try dsimp only at s
 refine pk0 (v := .string (⟨#[]⟩)) s rfl fun _ s => ?_;refine pk0 (v := .int .i64 0) s rfl fun _ s => q3 ?_;refine pk0 (v := pt N3 0) s rfl fun _ s => ?_;refine pk (v := .agg #[.int .i64 c, .int .i64 r, v]) s rfl (rn_loadN rfl rfl Try.underlying29 rfl (by kernel_rfl) (blk_part hk5 0 (by rfl))) fun _ s => ?_;have hB15 := hb_new hB0 hg4;refine pw s rfl (op_call (args := #[.agg #[.int .i64 c, .int .i64 r, v]]) (R := fun res xw => res = .tuple #[.string (putB c r l), .int .i64 (chkB c r l)] ∧ Below w2.heap.size w2 xw) rfl rfl rfl (by kernel_rfl) (by kernel_rfl) (Try.call40 _ _) (opsPut_any c r v l w2 (hs.below hB15)) (by rintro e x ⟨rfl, hb16⟩; exact ⟨_, rfl, ⟨rfl, hb16⟩⟩)) ?_;rintro _ w14 a13 ⟨rfl, hb16⟩ s;have hz17 := hb16.size;refine pk0 (v := .tuple #[.string (putB c r l), .int .i64 (chkB c r l)]) s rfl fun _ s => ?_;refine pk0 (v := .string (putB c r l)) s rfl fun _ s => ?_;refine pk0 (v := .int .i64 (chkB c r l)) s rfl fun _ s => ?_;refine pk0 (v := .string (putB c r l)) s rfl fun _ s => ?_;refine pk0 (v := .int .i64 (chkB c r l)) s rfl fun _ s => q6 ?_;refine pk0 (v := .int .i64 (chkB c r l)) s rfl fun _ s => ?_;refine pk0 (v := .bool (chkB c r l != 0)) s rfl fun _ s => q1 ?_;have hB26 := hb_call hB15 hb16;cases hc25 : (chkB c r l != 0)
 ·
  rw [hc25] at s;have hp27 : ¬ (chkB c r l ≠ 0) := by first | simpa using hc25 | simpa [and_assoc] using hc25
  refine co_false s rfl <| q0 <| co_seq ?_;refine dr_gen (fun x => Below w.heap.size w x ∧ Blk x N3 66 #[.int .i64 c, .int .i64 r, v, .int .u64 ts]) (by kernel_rfl) (fun w28 hg29 => ?_) (fun w28 hg29 => ?_)
  ·
   have hz30 := hg29.size;have hB31 := hb_new hB26 hg29;have hk32 := hk5.below hb16;have hk33 := hk32.kept hg29 (by simp);exact ⟨hB31, hk33⟩
  have hz34 := hg29.size;have hB35 := hb_new hB26 hg29;have hk36 := hk5.below hb16;have hk37 := hk36.kept hg29 (by simp);refine dk0 1 (v := pt N3 3) s rfl rfl ⟨hB35, hk37⟩ fun _ s => ?_;refine dk 2 (v := .int .u64 ts) s rfl rfl ⟨hB35, hk37⟩ (fun x hx => (rn_load1 rfl rfl Try.isAgg22 (hx.2.cell rfl))) fun _ s => ?_;refine dk0 4 (v := .string (putB c r l)) s rfl rfl ⟨hB35, hk37⟩ fun _ s => ?_;refine d1 0 s rfl rfl (op_call (args := #[]) (R := fun res xw => ∃ b : Nat, res = pt b 0 ∧ b = w28.heap.size ∧ OW b [] 0 xw ∧ Below w28.heap.size w28 xw) rfl rfl rfl (by kernel_rfl) (by kernel_rfl) (Try.call12 _ _) (ow_new w28) (by rintro e x ⟨b, rfl, h0, h1, h2⟩; exact ⟨_, rfl, b, rfl, h0, h1, h2⟩)) ?_ ?_
  ·
   rintro _ w42 ⟨b43, rfl, hN44, ho45, hb46⟩;have hz47 := hb46.size;have hl48 := ho45.lt;have hB49 := hb_call hB35 hb46;have hk50 := hk37.below hb46;exact ⟨hB49, hk50⟩
  rintro _ w42 a41 ⟨b43, rfl, hN44, ho45, hb46⟩ s;have hz47 := hb46.size;have hl48 := ho45.lt;have hB49 := hb_call hB35 hb46;have hk50 := hk37.below hb46;refine d1 3 s rfl rfl (op_call (args := #[pt b43 0, .int .u64 ts]) (R := fun res xw => res = pt b43 0 ∧ OW b43 (([] : List UInt8) ++ putL ts) (0 + 9) xw ∧ But (Rw w42 b43) w42 xw) rfl rfl rfl (by kernel_rfl) (by kernel_rfl) (Try.call35 _ _) (ow_big b43 ([]) 0 ts w42 ho45 (by omega) (by omega) (by omega)) (by rintro e x ⟨rfl, h1, h2⟩; exact ⟨_, rfl, rfl, h1, h2⟩)) ?_ ?_
  ·
   rintro _ w52 ⟨rfl, ho53, hx54⟩;have hz55 := hx54.size;have hl56 := ho53.lt;have hB57 := hb_wr hB49 ho45 (by omega) hx54;have hk58 := blk_wr hk50 ho45 (by decide) (by omega) hx54;exact ⟨hB57, hk58⟩
  rintro _ w52 a51 ⟨rfl, ho53, hx54⟩ s;have hz55 := hx54.size;have hl56 := ho53.lt;have hB57 := hb_wr hB49 ho45 (by omega) hx54;have hk58 := blk_wr hk50 ho45 (by decide) (by omega) hx54;refine d1 5 s rfl rfl (op_call (args := #[pt b43 0, .string (putB c r l)]) (R := fun res xw => res = pt b43 0 ∧ OW b43 ((([] : List UInt8) ++ putL ts) ++ (putL ((putB c r l : ByteArray).size : Int) ++ (putB c r l : ByteArray).data.toList)) (0 + 9 + (9 + (putB c r l : ByteArray).size)) xw ∧ But (Rw w52 b43) w52 xw) rfl rfl rfl (by kernel_rfl) (by kernel_rfl) (Try.call37 _ _) (ow_text b43 (([] : List UInt8) ++ putL ts) (0 + 9) (putB c r l) w52 ho53 (by first | omega | (simp; done) | (simp; omega))) (by rintro e x ⟨rfl, h1, h2⟩; exact ⟨_, rfl, rfl, h1, h2⟩)) ?_ ?_
  ·
   rintro _ w60 ⟨rfl, ho61, hx62⟩;have hz63 := hx62.size;have hl64 := ho61.lt;have hB65 := hb_wr hB57 ho53 (by omega) hx62;have hk66 := blk_wr hk58 ho53 (by decide) (by omega) hx62;exact ⟨hB65, hk66⟩
  rintro _ w60 a59 ⟨rfl, ho61, hx62⟩ s;have hz63 := hx62.size;have hl64 := ho61.lt;have hB65 := hb_wr hB57 ho53 (by omega) hx62;have hk66 := blk_wr hk58 ho53 (by decide) (by omega) hx62;refine d1 6 s rfl rfl (op_call (args := #[pt b43 0]) (R := fun res xw => res = .tuple #[.string (⟨((([] : List UInt8) ++ putL ts) ++ (putL ((putB c r l : ByteArray).size : Int) ++ (putB c r l : ByteArray).data.toList)).toArray⟩), .int .i64 0] ∧ Below w60.heap.size w60 xw) rfl rfl rfl (by kernel_rfl) (by kernel_rfl) (Try.call16 _ _) (ow_done b43 ((([] : List UInt8) ++ putL ts) ++ (putL ((putB c r l : ByteArray).size : Int) ++ (putB c r l : ByteArray).data.toList)) (0 + 9 + (9 + (putB c r l : ByteArray).size)) w60 ho61) (by rintro e x ⟨rfl, h2⟩; exact ⟨_, rfl, rfl, h2⟩)) ?_ ?_
  ·
   rintro _ w68 ⟨rfl, hb69⟩;have hz70 := hb69.size;have hB71 := hb_call hB65 hb69;have hk72 := hk66.below hb69;exact ⟨hB71, hk72⟩
  rintro _ w68 a67 ⟨rfl, hb69⟩ s;have hz70 := hb69.size;have hB71 := hb_call hB65 hb69;have hk72 := hk66.below hb69;refine dk0 7 (v := .string (⟨((([] : List UInt8) ++ putL ts) ++ (putL ((putB c r l : ByteArray).size : Int) ++ (putB c r l : ByteArray).data.toList)).toArray⟩)) s rfl rfl ⟨hB71, hk72⟩ fun _ s => ?_;refine dk0 8 (v := .int .i64 0) s rfl rfl ⟨hB71, hk72⟩ fun _ s => ?_;refine dk0 9 (v := .string (⟨((([] : List UInt8) ++ putL ts) ++ (putL ((putB c r l : ByteArray).size : Int) ++ (putB c r l : ByteArray).data.toList)).toArray⟩)) s rfl rfl ⟨hB71, hk72⟩ fun _ s => ?_;refine dk0 10 (v := .int .i64 0) s rfl rfl ⟨hB71, hk72⟩ fun _ s => ?_;refine dr_done (by kernel_rfl) ?_;refine co_then <| wp_ret ?_;refine co_ret2 s rfl rfl rfl ?_;exact ⟨by rw [putE_ok (by omega), show chkB c r l = 0 by omega]; simp [putEL], hB71⟩
 rw [hc25] at s;have hp77 : chkB c r l ≠ 0 := by first | simpa using hc25 | simpa [and_assoc] using hc25
 refine co_true s rfl <| q2 ?_;refine pk0 (v := .int .i64 (chkB c r l)) s rfl fun _ s => ?_;refine pk0 (v := .string (⟨#[]⟩)) s rfl fun _ s => ?_;refine pk0 (v := .int .i64 (chkB c r l)) s rfl fun _ s => q5 ?_;refine co_ret2 s rfl rfl rfl ?_;exact ⟨by rw [putE_err (by assumption)], hB26⟩
set_option maxRecDepth 100000 in
theorem itemOf_any (s : ByteArray) (c : Int) (r : Int) (l : List OpT) (ts : Int) (x : Int) (w : World) (hsz : s.size ≤ 9223372036854775807) (hof : ofE s = ((c, r, l, ts), x)) :
    Calls Try.prog 77 #[.string s] w fun e w' => ∃ (u : Value), e = .returned (.tuple #[.agg #[.int .i64 c, .int .i64 r, u, .int .u64 ts], .int .i64 x]) ∧ w'.ownsRow w.heap.size 115 3 u l.length (l.flatMap opE) ∧ Below w.heap.size w w' := by
 have hB0 := Below.refl w.heap.size w;refine co_enter (n := 34) Try.func77 rfl rfl rfl [(0, .string s)] rfl (fun a g => ?_);refine q2 ?_;refine pw g rfl (op_new (v := fun N => pt N 0) (T := 66) (cs := #[.int .i64 0, .int .i64 0, .slice none 0 0, .int .u64 0]) (by kernel_rfl) (by kernel_rfl) (by kernel_rfl)) ?_;rintro _ w2 a1 ⟨N3, rfl, hN6, hz7, hk5, hg4⟩ g;have hz8 := hg4.size
 try dsimp only at g
 refine pk0 (v := .int .i64 0) g rfl fun _ g => q3 ?_;refine pk0 (v := .string s) g rfl fun _ g => ?_;refine pw g rfl (op_call (args := #[.string s]) (R := fun res xw => ∃ b : Nat, res = pt b 0 ∧ b = w2.heap.size ∧ OR b s 0 0 xw ∧ Below w2.heap.size w2 xw) rfl rfl rfl (by kernel_rfl) (by kernel_rfl) (Try.call17 _ _) (or_open s w2) (by rintro e x ⟨b, rfl, h0, h1, h2⟩; exact ⟨_, rfl, b, rfl, h0, h1, h2⟩)) ?_;rintro _ w12 a11 ⟨b13, rfl, hN14, ho15, hb16⟩ g;have hz17 := hb16.size;have hl18 := ho15.lt;refine pk0 (v := pt b13 0) g rfl fun _ g => q3 ?_;refine pk0 (v := pt b13 0) g rfl fun _ g => ?_;refine pw g rfl (op_call (args := #[pt b13 0]) (R := fun res xw => ∃ (n : Int) (a' e' : Int), res = .int .u64 n ∧ bigR s 0 0 = (n, a', e') ∧ 0 ≤ n ∧ n < 18446744073709551616 ∧ OR b13 s a' e' xw ∧ w12.grownBy xw (some b13)) rfl rfl rfl (by kernel_rfl) (by kernel_rfl) (Try.call47 _ _) (or_big b13 s 0 0 w12 ho15 (by omega)) (by rintro q x ⟨n, a', e', rfl, h0, k0, k1, h1, h2⟩; exact ⟨_, rfl, n, a', e', rfl, h0, k0, k1, h1, h2⟩)) ?_;rintro _ w22 a21 ⟨n23, a24, e25, rfl, hq26, hn27, hm28, ho29, hg30⟩ g;have hz31 := hg30.size;have hl32 := ho29.lt;refine pk0 (v := pt b13 0) g rfl fun _ g => ?_;refine pw g rfl (op_call (args := #[pt b13 0, .int .i64 65536]) (R := fun res xw => ∃ (n : ByteArray) (a' e' : Int), res = .string n ∧ textR s a24 e25 65536 = (n, a', e') ∧ (n.size : Int) ≤ 65536 ∧ OR b13 s a' e' xw ∧ w22.grownBy xw (some b13)) rfl rfl rfl (by kernel_rfl) (by kernel_rfl) (Try.call48 _ _) (or_text b13 s a24 e25 65536 w22 ho29 (by omega) (by omega) (by omega)) (by rintro q x ⟨n, a', e', rfl, h0, k0, h1, h2⟩; exact ⟨_, rfl, n, a', e', rfl, h0, k0, h1, h2⟩)) ?_;rintro _ w35 a34 ⟨n36, a37, e38, rfl, hq39, hn40, ho42, hg43⟩ g;have hz44 := hg43.size;have hl45 := ho42.lt;refine pk0 (v := .int .u64 n23) g rfl fun _ g => ?_;refine pk0 (v := .string n36) g rfl fun _ g => q6 ?_;refine pk0 (v := pt b13 0) g rfl fun _ g => ?_;refine pw g rfl (op_call (args := #[pt b13 0]) (R := fun res xw => ∃ r : Int, res = .int .i64 r ∧ endV s a37.toNat e38 = r ∧ Below w35.heap.size w35 xw) rfl rfl rfl (by kernel_rfl) (by kernel_rfl) (Try.call22 _ _) (or_end b13 s a37 e38 w35 ho42 (by omega)) (by rintro e x ⟨r, rfl, h0, h2⟩; exact ⟨_, rfl, r, rfl, h0, h2⟩)) ?_;rintro _ w50 a49 ⟨r51, rfl, hq52, hb53⟩ g;have hz54 := hb53.size;refine pk0 (v := .int .i64 r51) g rfl fun _ g => q3 ?_;refine pk0 (v := .int .i64 r51) g rfl fun _ g => ?_;refine pk0 (v := .bool (r51 != 0)) g rfl fun _ g => q1 ?_;have hB59 := hb_new hB0 hg4;have hB60 := hb_call hB59 hb16;have hB61 := hb_at hB60 hg30 (by omega);have hB62 := hb_at hB61 hg43 (by omega);have hB63 := hb_call hB62 hb53;have hk64 := hk5.below hb16;have hk65 := hk64.kept hg30 (by simp; omega);have hk66 := hk65.kept hg43 (by simp; omega);have hk67 := hk66.below hb53;cases hc58 : (r51 != 0)
 ·
  rw [hc58] at g;have hp68 : ¬ (r51 ≠ 0) := by first | simpa using hc58 | simpa [and_assoc] using hc58
  refine co_false g rfl <| q7 ?_;refine pk0 (v := .string n36) g rfl fun _ g => ?_;refine pw g rfl (op_call (args := #[.string n36]) (R := fun res xw => ∃ u : Value, res = .tuple #[.agg #[.int .i64 ((ofB n36).1.1), .int .i64 ((ofB n36).1.2.1), u], .int .i64 ((ofB n36).2)] ∧ xw.ownsRow w50.heap.size 115 3 u ((ofB n36).1.2.2).length (((ofB n36).1.2.2).flatMap opE) ∧ Below w50.heap.size w50 xw) rfl rfl rfl (by kernel_rfl) (by kernel_rfl) (Try.call52 _ _) (opsOf_any n36 ((ofB n36).1.1) ((ofB n36).1.2.1) ((ofB n36).1.2.2) ((ofB n36).2) w50 (by first | omega | (simp; done) | (simp; omega)) rfl) (by rintro e x ⟨u, rfl, hq73, hb74⟩; exact ⟨_, rfl, ⟨u, rfl, hq73, hb74⟩⟩)) ?_;rintro _ w71 a70 ⟨u72, rfl, hq73, hb74⟩ g;have hz75 := hb74.size;have hl76 := sl_len (row_sl hq73 opE_len);refine pk0 (v := .tuple #[.agg #[.int .i64 ((ofB n36).1.1), .int .i64 ((ofB n36).1.2.1), u72], .int .i64 ((ofB n36).2)]) g rfl fun _ g => ?_;refine pk0 (v := .agg #[.int .i64 ((ofB n36).1.1), .int .i64 ((ofB n36).1.2.1), u72]) g rfl fun _ g => ?_;refine pk0 (v := .int .i64 ((ofB n36).2)) g rfl fun _ g => ?_;refine pw g rfl (op_new (v := fun N => pt N 0) (T := 29) (cs := #[.int .i64 0, .int .i64 0, .slice none 0 0]) (by kernel_rfl) (by kernel_rfl) (by kernel_rfl)) ?_;rintro _ w81 a80 ⟨N82, rfl, hN85, hz86, hk84, hg83⟩ g;have ha87 := row_fresh hq73 hN85;have hz88 := hg83.size
  try dsimp only at g
  have hr94 := row_kept_new hq73 hg83;refine pwD g rfl (op_storeN rfl rfl rfl (all_cons rfl (all_cons rfl (all_cons (row_one hr94) all_nil))) (by kernel_rfl) hk84 rfl) ?_;rintro _ w90 a89 ⟨hk91, hz92, hg93⟩ g;have hk91' : Blk w90 N82 29 #[.int .i64 ((ofB n36).1.1), .int .i64 ((ofB n36).1.2.1), u72] := hk91;have hz95 := hg93.size;refine pk0 (v := .int .i64 ((ofB n36).2)) g rfl fun _ g => q6 ?_;refine pk0 (v := .int .i64 ((ofB n36).2)) g rfl fun _ g => ?_;refine pk0 (v := .bool (((ofB n36).2) != 0)) g rfl fun _ g => q1 ?_;have hB100 := hb_call hB63 hb74;have hB101 := hb_new hB100 hg83;have hB102 := hb_at hB101 hg93 (by omega);have hk103 := hk67.below hb74;have hk104 := hk103.kept hg83 (by simp);have hk105 := hk104.kept hg93 (by simp; omega);have ho106 := ho42.below hb53;have ho107 := ho106.below hb74;have ho108 := ho107.new hg83;have ho109 := ho108.at (by omega) hg93;cases hc99 : (((ofB n36).2) != 0)
  ·
   rw [hc99] at g;have hp110 : ¬ (((ofB n36).2) ≠ 0) := by first | simpa using hc99 | simpa [and_assoc] using hc99
   refine co_false g rfl <| q7 ?_;refine pk (v := .agg #[.int .i64 ((ofB n36).1.1), .int .i64 ((ofB n36).1.2.1), u72]) g rfl (rn_loadN rfl rfl Try.underlying29 rfl (by kernel_rfl) hk91'.all) fun _ g => ?_;refine pk0 (v := .int .u64 n23) g rfl fun _ g => ?_;refine pk0 (v := .agg #[.int .i64 ((ofB n36).1.1), .int .i64 ((ofB n36).1.2.1), u72, .int .u64 n23]) g rfl fun _ g => ?_;have hr119 := row_kept_at hr94 hg93 (ha87);refine pwD g rfl (op_storeN rfl rfl rfl (all_cons rfl (all_cons rfl (all_cons (row_one hr119) (all_cons rfl all_nil)))) (by kernel_rfl) hk105 rfl) ?_;rintro _ w115 a114 ⟨hk116, hz117, hg118⟩ g;have hk116' : Blk w115 N3 66 #[.int .i64 ((ofB n36).1.1), .int .i64 ((ofB n36).1.2.1), u72, .int .u64 n23] := hk116;have hz120 := hg118.size;refine pk0 (v := .int .i64 0) g rfl fun _ g => q4 ?_;refine co_retC1 (Q := fun _ _ _ => True) g rfl rfl rfl hk116' Try.underlying66 rfl (by kernel_rfl) ?_;have hr122 := row_kept_at hr119 hg118 (row_ne_lt hr119 (by omega));have hB123 := hb_at hB102 hg118 (by omega);cases hof.symm.trans ((ofE_at hq26 hq39 hq52).trans (ofEndE_c (by assumption) (by assumption)));exact ⟨_, rfl, (row_lows hr122 (by omega)), hB123⟩
  rw [hc99] at g;have hp124 : ((ofB n36).2) ≠ 0 := by first | simpa using hc99 | simpa [and_assoc] using hc99
  refine co_true g rfl <| q2 ?_;refine pk0 (v := .agg #[.int .i64 0, .int .i64 0, .slice none 0 0, .int .u64 0]) g rfl fun _ g => ?_;refine pk0 (v := .int .i64 ((ofB n36).2)) g rfl fun _ g => ?_;refine pwD g rfl (op_storeN rfl rfl rfl (all_cons rfl (all_cons rfl (all_cons rfl (all_cons rfl all_nil)))) (by kernel_rfl) hk105 rfl) ?_;rintro _ w128 a127 ⟨hk129, hz130, hg131⟩ g;have hk129' : Blk w128 N3 66 #[.int .i64 0, .int .i64 0, .slice none 0 0, .int .u64 0] := hk129;have hz132 := hg131.size;refine pk0 (v := .int .i64 ((ofB n36).2)) g rfl fun _ g => q5 ?_;refine co_retC1 (Q := fun _ _ _ => True) g rfl rfl rfl hk129' Try.underlying66 rfl (by kernel_rfl) ?_;have hB134 := hb_at hB102 hg131 (by omega);cases hof.symm.trans ((ofE_at hq26 hq39 hq52).trans (ofEndE_b (by assumption) (by assumption)));exact ⟨_, rfl, (row_nilL _ _ _ _ _), hB134⟩
 rw [hc58] at g;have hp135 : r51 ≠ 0 := by first | simpa using hc58 | simpa [and_assoc] using hc58
 refine co_true g rfl <| q2 ?_;refine pk0 (v := .agg #[.int .i64 0, .int .i64 0, .slice none 0 0, .int .u64 0]) g rfl fun _ g => ?_;refine pk0 (v := .int .i64 r51) g rfl fun _ g => ?_;refine pwD g rfl (op_storeN rfl rfl rfl (all_cons rfl (all_cons rfl (all_cons rfl (all_cons rfl all_nil)))) (by kernel_rfl) hk67 rfl) ?_;rintro _ w139 a138 ⟨hk140, hz141, hg142⟩ g;have hk140' : Blk w139 N3 66 #[.int .i64 0, .int .i64 0, .slice none 0 0, .int .u64 0] := hk140;have hz143 := hg142.size;refine pk0 (v := .int .i64 r51) g rfl fun _ g => q5 ?_;refine co_retC1 (Q := fun _ _ _ => True) g rfl rfl rfl hk140' Try.underlying66 rfl (by kernel_rfl) ?_;have hB145 := hb_at hB63 hg142 (by omega);cases hof.symm.trans ((ofE_at hq26 hq39 hq52).trans (ofEndE_a (by assumption)));exact ⟨_, rfl, (row_nilL _ _ _ _ _), hB145⟩
end Go.Proofs.Ytcbagajjgbfgdaa

/- A text's bytes, by the index. Conditions: none. -/
namespace Go.Proofs.Ytcbagajjgbfgdaa
open Go.RowKit Go.PlainAid Go.ChangeMaps
def byteAt (s : ByteArray) (i : Nat) : Int := ((s.data[i]?.getD 0).toNat : Int)
section
variable {P : Program} {n : Nat} {m : List (Nat × Value)} {w x : World} {o : Oper} {r pos : Nat} {s : ByteArray} {q : Operand} {t : TypeId}
theorem byteAt_get {k : Nat} (h : k < s.size) : byteAt s k = ((s[k]'h).toNat : Int) := by
  unfold byteAt
  have : s.data[k]? = some (s[k]'h) := Array.getElem?_eq_getElem h
  rw [this]; rfl
theorem rn_indexStr {r : Operand} {k : IntKind} {i : Int} {j : Nat} (ho : o.op = .index t q r) (hq : ev m q = some (.string s)) (hr : ev m r = some (.int k i)) (ht : P.underlying t = some .string) (hij : i = (j : Nat)) (hj : j < s.size) : (execOp (lk m) o).run P w = .ok (.value (.int .u8 (byteAt s j))) w := by
  subst hij
  unfold execOp
  simp only [ho, lk_ev hq, lk_ev hr, Sem.run_bind, run_index_string w t s k _ ht]
  simp [hj, byteAt_get hj]
end
end Go.Proofs.Ytcbagajjgbfgdaa

/- A range over a text: the call's own place among its bytes. Conditions: the bytes are below 128. -/
namespace Go.Proofs.Ytcbagajjgbfgdaa
open Go.RowKit Go.PlainAid Go.ChangeMaps
def SIt (w : World) (r : Nat) (s : ByteArray) (pos : Nat) : Prop := w.heap[r]? = some (.stringIter s pos)
def Ascii (s : ByteArray) : Prop := ∀ i (h : i < s.size), (s[i]'h).toNat < 128
section
variable {P : Program} {n : Nat} {m : List (Nat × Value)} {w x : World} {o : Oper} {r pos : Nat} {s : ByteArray} {q : Operand} {t : TypeId}
theorem SIt.lt (h : SIt w r s pos) : r < w.heap.size := (Array.getElem?_eq_some_iff.1 (show w.heap[r]? = _ from h)).1
theorem SIt.kept {row : Option Nat} (h : SIt w r s pos) (hg : w.grownBy x row) (h2 : row ≠ some r) : SIt x r s pos := by
  unfold SIt; rw [hg.block r h.lt (fun e => h2 e.symm)]; exact h
theorem SIt.row {B' : Nat} {T : TypeId} {sz k : Nat} {v : Value} {xs : List Value} (h : SIt w r s pos) (hr : w.ownsRow B' T sz v k xs) : v.ownBlock ≠ some r := by
  intro e
  obtain ⟨_, h2⟩ := hr
  rcases h2 with h2 | ⟨g, cap, cur, hv, hg, hh, _⟩
  · rw [h2.1] at e; simp [Value.ownBlock] at e
  · rw [hv] at e
    simp only [Value.ownBlock, Option.some.injEq] at e
    subst e
    rw [show w.heap[g]? = _ from h] at hh; cases hh
theorem SIt.but {S : Nat → Prop} (h : SIt w r s pos) (hb : But S w x) (hn : ¬ S r) : SIt x r s pos := by
  unfold SIt; rw [hb.block r h.lt hn]; exact h
theorem op_rangeS (ho : o.op = .range t q) (hq : ev m q = some (.string s)) (ht : P.underlying t = some .string) :
    Op1 P n m o w (fun u x => ∃ r, u = .pointer (some ⟨r, 0, none⟩) ∧ r = w.heap.size ∧ SIt x r s 0 ∧ x.heap.size = r + 1 ∧ w.grownBy x none) := by
  intro ac ha N Q hN
  unfold Oper.wp execOp
  simp only [ho, ha.ev hq, Sem.run_bind, run_range_string w t s ht, Result.andThen_ok, Sem.run_pure]
  have hgr := World.grownBy_alloc w (.stringIter s 0) none
  refine hN _ _ ⟨w.heap.size, rfl, rfl, w.iter_heap s 0, ?_, hgr⟩
  show (w.heap.push _).size = _
  rw [Array.size_push]
theorem op_nextS (ho : o.op = .next q true) (hq : ev m q = some (.pointer (some ⟨r, 0, none⟩))) (h : SIt w r s pos) (ha : Ascii s) :
    Op1 P n m o w (fun u x => (s.size ≤ pos ∧ u = .tuple #[.bool false] ∧ w = x) ∨
      (pos < s.size ∧ u = .tuple #[.bool true, .int .i64 ((pos : Nat) : Int), .int .i32 (byteAt s pos)] ∧ SIt x r s (pos + 1) ∧ x.heap.size = w.heap.size ∧ w.grownBy x (some r))) := by
  intro ac hac N Q hN
  have hr : w.heap[r]? = some (.stringIter s pos) := h
  unfold Oper.wp execOp
  simp only [ho, hac.ev hq, Sem.run_bind]
  have hg : (getObj r).run P w = .ok (.stringIter s pos) w := by simp [getObj, Sem.run, hr]
  by_cases hp : pos < s.size
  · have hset := Go.MapKept.heap_set (o' := .stringIter s (pos + 1)) hr
    have hb : byteAt s pos = ((s[pos]'hp).toNat : Int) := by
      unfold byteAt
      have : s.data[pos]? = some (s[pos]'hp) := Array.getElem?_eq_getElem hp
      rw [this]; rfl
    have hrun : (Instr.next (.pointer (some ⟨r, 0, none⟩)) true o.type).run P w = .ok (.tuple #[.bool true, .int .i64 ((pos : Nat) : Int), .int .i32 (byteAt s pos)]) (setBlock w r (.stringIter s (pos + 1))) := by
      rw [hb]
      simp only [Instr.next, Sem.run_bind, hg, Result.andThen_ok, hp, if_true, decode_ascii s pos hp (ha pos hp)]
      simp [goInt, setObj, Sem.run, setBlock, hr]
    simp only [hrun, Result.andThen_ok, Sem.run_pure]
    have hgr : w.grownBy (setBlock w r (.stringIter s (pos + 1))) (some r) := ⟨rfl, rfl, rfl, by simp [setBlock], fun k _ hk => hset.2 k (fun e1 => hk (by rw [e1]))⟩
    exact hN _ _ (.inr ⟨hp, rfl, hset.1, by simp [setBlock], hgr⟩)
  · have hrun : (Instr.next (.pointer (some ⟨r, 0, none⟩)) true o.type).run P w = .ok (.tuple #[.bool false]) w := by
      simp only [Instr.next, Sem.run_bind, hg, Result.andThen_ok, hp, if_false]
      simp [Sem.run]
    simp only [hrun, Result.andThen_ok, Sem.run_pure]
    exact hN _ _ (.inl ⟨by omega, rfl, rfl⟩)
end
end Go.Proofs.Ytcbagajjgbfgdaa

/- Package mess: parts, numbers, lists checked. Conditions: none. -/
namespace Go.Proofs.Ytcbagajjgbfgdaa
open Go.RowKit Go.PlainAid
set_option linter.unusedVariables false


abbrev PrT := ByteArray × ByteArray
def prE (y : PrT) : List Value := [.string y.1, .string y.2]
theorem prE_len (y : PrT) : (prE y).length = 2 := rfl
theorem intE_len (k : IntKind) (y : Int) : (intE k y).length = 1 := rfl
/-- A message, without where its lists lie. -/
structure MsgD where
  k : Int
  ep : Int
  rq : Int
  sr : Int
  fg : Bool
  at_ : Int
  la : Int
  n : Int
  m : Int
  p : Int
  e : Int
  key : ByteArray
  to_ : ByteArray
  cep : Int
  cms : List MemT
  cfl : Int
  bc : Int
  br : Int
  bl : List OpT
  en : List EntT
  st : List Int
  pr : List PrT
/-- What is known of a message that may be. -/
structure MsgR (d : MsgD) : Prop where
  mem : ∀ m ∈ d.cms, memOk m
  rng : (-9223372036854775808 ≤ d.cep ∧ d.cep ≤ 9223372036854775807) ∧ (0 ≤ d.cfl ∧ d.cfl < 18446744073709551616) ∧ (0 ≤ d.at_ ∧ d.at_ < 18446744073709551616) ∧ (0 ≤ d.la ∧ d.la < 18446744073709551616)
  st : ∀ t ∈ d.st, 0 ≤ t ∧ t < 18446744073709551616
/-- The parts of a kind, by the program's letters; by the document's. -/
def ptL (k : Int) : List UInt8 := if k = 1 then [67, 97] else if k = 2 then [101, 115, 102, 97, 108] else if k = 3 then [101, 110, 109, 112, 113, 97, 76] else if k = 4 then [101, 110, 109, 112, 83] else if k = 5 then [101, 66] else if k = 6 ∨ k = 11 then [113, 97] else if k = 7 then [113, 120, 101, 110] else if k = 8 then [113, 107, 97] else if k = 9 then [113, 107, 116, 97, 110] else if k = 10 then [113, 107, 97, 102, 82] else if k = 12 ∨ k = 13 ∨ k = 14 then [113, 110] else []
def pstr (k : Int) : ByteArray := ⟨(ptL k).toArray⟩
def numP (d : MsgD) (p : Int) : Int := if p = 101 then d.ep else if p = 115 then d.sr else if p = 113 then d.rq else if p = 110 then d.n else if p = 109 then d.m else if p = 112 then d.p else d.e
theorem np_1 {d : MsgD} {p : Int} (h : p = 101) : d.ep = numP d p := by unfold numP; rw [if_pos h]
theorem np_2 {d : MsgD} {p : Int} (h : p = 115) : d.sr = numP d p := by unfold numP; rw [if_neg (by omega), if_pos h]
theorem np_3 {d : MsgD} {p : Int} (h : p = 113) : d.rq = numP d p := by unfold numP; rw [if_neg (by omega), if_neg (by omega), if_pos h]
theorem np_4 {d : MsgD} {p : Int} (h : p = 110) : d.n = numP d p := by unfold numP; rw [if_neg (by omega), if_neg (by omega), if_neg (by omega), if_pos h]
theorem np_5 {d : MsgD} {p : Int} (h : p = 109) : d.m = numP d p := by unfold numP; rw [if_neg (by omega), if_neg (by omega), if_neg (by omega), if_neg (by omega), if_pos h]
theorem np_6 {d : MsgD} {p : Int} (h : p = 112) : d.p = numP d p := by unfold numP; rw [if_neg (by omega), if_neg (by omega), if_neg (by omega), if_neg (by omega), if_neg (by omega), if_pos h]
theorem np_7 {d : MsgD} {p : Int} (h : ¬ (p = 101 ∨ p = 115 ∨ p = 113 ∨ p = 110 ∨ p = 109 ∨ p = 112)) : d.e = numP d p := by unfold numP; rw [if_neg (by omega), if_neg (by omega), if_neg (by omega), if_neg (by omega), if_neg (by omega), if_neg (by omega)]
def chkF {α : Type} (f : α → Int) : List α → Int
  | [] => 0
  | x :: r => if f x ≠ 0 then f x else chkF f r
def chkLs {α : Type} (most : Int) (f : α → Int) (l : List α) : Int := if (l.length : Int) > most then 6 else chkF f l
theorem dropM {α : Type} {l : List α} {i : Nat} {y : α} (h : l[i]? = some y) : l.drop i = y :: l.drop (i + 1) := by
  obtain ⟨hi, rfl⟩ := List.getElem?_eq_some_iff.1 h
  exact List.drop_eq_getElem_cons hi
theorem cF_step {α : Type} {f : α → Int} {l : List α} {i : Nat} {y : α} {z : Int} (h : chkF f (l.drop i) = z) (hy : l[i]? = some y) (hc : f y = 0) : chkF f (l.drop (i + 1)) = z := by
  rw [dropM hy] at h; unfold chkF at h; rw [if_neg (by omega)] at h; exact h
theorem cF_bad {α : Type} {f : α → Int} {l : List α} {i : Nat} {y : α} {z : Int} (h : chkF f (l.drop i) = z) (hy : l[i]? = some y) (hc : f y ≠ 0) : f y = z := by
  rw [dropM hy] at h; unfold chkF at h; rwa [if_pos hc] at h
theorem cF_end {α : Type} {f : α → Int} {l : List α} {i : Nat} {z : Int} (h : chkF f (l.drop i) = z) (hi : l.length ≤ i) : 0 = z := by
  rw [List.drop_eq_nil_of_le hi] at h; simpa [chkF] using h
def chkPair (y : PrT) : Int := if keyC y.1 ≠ 0 then keyC y.1 else if (y.2.size : Int) > 8 then 3 else 0
def chkEn (e : EntT) : Int := chkB e.client e.req e.opl
def chkSt (_ : Int) : Int := 0
def numL (p : Int) : Prop := p = 101 ∨ p = 115 ∨ p = 113 ∨ p = 110 ∨ p = 109 ∨ p = 112
instance (p : Int) : Decidable (numL p) := by unfold numL; infer_instance
def chkP (d : MsgD) (p : Int) : Int :=
  if p = 120 then (if d.e < 0 ∨ d.e > 21 then 1 else 0)
  else if numL p then (if numP d p < 0 ∨ numP d p > 1073741824 then 5 else 0)
  else if p = 107 then (if (d.key.size : Int) > 8 then 3 else 0)
  else if p = 116 then (if (d.to_.size : Int) > 8 then 3 else 0)
  else if p = 67 then chkC d.cep d.cms
  else if p = 66 then chkB d.bc d.br d.bl
  else if p = 76 then chkLs 4 chkEn d.en
  else if p = 83 then chkLs 8 chkSt d.st
  else if p = 82 then chkLs 32 chkPair d.pr else 0

set_option maxRecDepth 100000 in
theorem mKnown_any (k : Int) (w : World)  :
    Calls Try.prog 20 #[.int .i64 k] w fun e w' => e = .returned (.bool (decide (1 ≤ k ∧ k ≤ 15))) ∧ Below w.heap.size w w' := by
 have hB0 := Below.refl w.heap.size w;refine co_enter (n := 9) Try.func20 rfl rfl rfl [(0, .int .i64 k)] rfl (fun a s => ?_);refine q2 ?_;refine pk0 (v := .bool false) s rfl fun _ s => q3 ?_;refine pk0 (v := .int .i64 k) s rfl fun _ s => ?_;refine pk0 (v := .bool (decide (k ≥ 1))) s rfl fun _ s => ?_;refine pk0 (v := .bool (decide (k ≥ 1))) s rfl fun _ s => ?_;cases hc5 : (decide (k ≥ 1))
 ·
  rw [hc5] at s;have hp6 : ¬ (k ≥ 1) := of_decide_eq_false hc5;refine psk s rfl fun _ s => ?_;refine psk s rfl fun _ s => ?_;refine pk0 (v := .bool false) s rfl fun _ s => ?_;refine pk0 (v := .bool false) s rfl fun _ s => q4 ?_;refine co_ret1 s rfl rfl ?_;exact ⟨ret_bool (by first | rfl | exact (decide_eq_true (by omega)).symm | exact (decide_eq_false (by omega)).symm | (rw [Bool.eq_iff_iff]; simp; omega)), hB0⟩
 rw [hc5] at s;have hp11 : k ≥ 1 := of_decide_eq_true hc5;refine pk0 (v := .int .i64 k) s rfl fun _ s => ?_;refine pk0 (v := .bool (decide (k ≤ 15))) s rfl fun _ s => ?_;refine pk0 (v := .bool (decide (k ≤ 15))) s rfl fun _ s => ?_;refine pk0 (v := .bool (decide (k ≤ 15))) s rfl fun _ s => q4 ?_;refine co_ret1 s rfl rfl ?_;exact ⟨ret_bool (by first | rfl | exact (decide_eq_true (by omega)).symm | exact (decide_eq_false (by omega)).symm | (rw [Bool.eq_iff_iff]; simp; omega)), hB0⟩
set_option maxRecDepth 100000 in
theorem mParts_any (k : Int) (w : World)  :
    Calls Try.prog 14 #[.int .i64 k] w fun e w' => e = .returned (.string (pstr k)) ∧ Below w.heap.size w w' := by
 have hB0 := Below.refl w.heap.size w;refine co_enter (n := 29) Try.func14 rfl rfl rfl [(0, .int .i64 k)] rfl (fun a s => ?_);refine q2 ?_;refine pk0 (v := .string (⟨#[]⟩)) s rfl fun _ s => q6 ?_;refine pk0 (v := .int .i64 k) s rfl fun _ s => q1 <| wp_block <| q2 ?_;refine pk0 (v := .bool (k == 1)) s rfl fun _ s => ?_;refine pk0 (v := .bool (k == 1)) s rfl fun _ s => q1 ?_;cases hc5 : (k == 1)
 ·
  rw [hc5] at s;have hp6 : ¬ (k = 1) := by first | simpa using hc5 | simpa [and_assoc] using hc5
  refine co_false s rfl <| q2 ?_;refine pk0 (v := .bool (k == 2)) s rfl fun _ s => ?_;refine pk0 (v := .bool (k == 2)) s rfl fun _ s => q1 ?_;cases hc9 : (k == 2)
  ·
   rw [hc9] at s;have hp10 : ¬ (k = 2) := by first | simpa using hc9 | simpa [and_assoc] using hc9
   refine co_false s rfl <| q2 ?_;refine pk0 (v := .bool (k == 3)) s rfl fun _ s => ?_;refine pk0 (v := .bool (k == 3)) s rfl fun _ s => q1 ?_;cases hc13 : (k == 3)
   ·
    rw [hc13] at s;have hp14 : ¬ (k = 3) := by first | simpa using hc13 | simpa [and_assoc] using hc13
    refine co_false s rfl <| q2 ?_;refine pk0 (v := .bool (k == 4)) s rfl fun _ s => ?_;refine pk0 (v := .bool (k == 4)) s rfl fun _ s => q1 ?_;cases hc17 : (k == 4)
    ·
     rw [hc17] at s;have hp18 : ¬ (k = 4) := by first | simpa using hc17 | simpa [and_assoc] using hc17
     refine co_false s rfl <| q2 ?_;refine pk0 (v := .bool (k == 5)) s rfl fun _ s => ?_;refine pk0 (v := .bool (k == 5)) s rfl fun _ s => q1 ?_;cases hc21 : (k == 5)
     ·
      rw [hc21] at s;have hp22 : ¬ (k = 5) := by first | simpa using hc21 | simpa [and_assoc] using hc21
      refine co_false s rfl <| q9 ?_;refine pk0 (v := .bool (k == 6)) s rfl fun _ s => ?_;refine pk0 (v := .bool (k == 6)) s rfl fun _ s => q1 ?_;cases hc25 : (k == 6)
      ·
       rw [hc25] at s;have hp26 : ¬ (k = 6) := by first | simpa using hc25 | simpa [and_assoc] using hc25
       refine co_false s rfl <| co_reg ?_;refine pk0 (v := .bool (k == 11)) s rfl fun _ s => ?_;refine pk0 (v := .bool (k == 11)) s rfl fun _ s => q1 ?_;cases hc29 : (k == 11)
       ·
        rw [hc29] at s;have hp30 : ¬ (k = 11) := by first | simpa using hc29 | simpa [and_assoc] using hc29
        refine co_false s rfl <| q2 ?_;refine pk0 (v := .bool (k == 7)) s rfl fun _ s => ?_;refine pk0 (v := .bool (k == 7)) s rfl fun _ s => q1 ?_;cases hc33 : (k == 7)
        ·
         rw [hc33] at s;have hp34 : ¬ (k = 7) := by first | simpa using hc33 | simpa [and_assoc] using hc33
         refine co_false s rfl <| q2 ?_;refine pk0 (v := .bool (k == 8)) s rfl fun _ s => ?_;refine pk0 (v := .bool (k == 8)) s rfl fun _ s => q1 ?_;cases hc37 : (k == 8)
         ·
          rw [hc37] at s;have hp38 : ¬ (k = 8) := by first | simpa using hc37 | simpa [and_assoc] using hc37
          refine co_false s rfl <| q2 ?_;refine pk0 (v := .bool (k == 9)) s rfl fun _ s => ?_;refine pk0 (v := .bool (k == 9)) s rfl fun _ s => q1 ?_;cases hc41 : (k == 9)
          ·
           rw [hc41] at s;have hp42 : ¬ (k = 9) := by first | simpa using hc41 | simpa [and_assoc] using hc41
           refine co_false s rfl <| q2 ?_;refine pk0 (v := .bool (k == 10)) s rfl fun _ s => ?_;refine pk0 (v := .bool (k == 10)) s rfl fun _ s => q1 ?_;cases hc45 : (k == 10)
           ·
            rw [hc45] at s;have hp46 : ¬ (k = 10) := by first | simpa using hc45 | simpa [and_assoc] using hc45
            refine co_false s rfl <| q9 ?_;refine pk0 (v := .bool (k == 12)) s rfl fun _ s => ?_;refine pk0 (v := .bool (k == 12)) s rfl fun _ s => q1 ?_;cases hc49 : (k == 12)
            ·
             rw [hc49] at s;have hp50 : ¬ (k = 12) := by first | simpa using hc49 | simpa [and_assoc] using hc49
             refine co_false s rfl <| q2 ?_;refine pk0 (v := .bool (k == 13)) s rfl fun _ s => ?_;refine pk0 (v := .bool (k == 13)) s rfl fun _ s => q1 ?_;cases hc53 : (k == 13)
             ·
              rw [hc53] at s;have hp54 : ¬ (k = 13) := by first | simpa using hc53 | simpa [and_assoc] using hc53
              refine co_false s rfl <| co_reg ?_;refine pk0 (v := .bool (k == 14)) s rfl fun _ s => ?_;refine pk0 (v := .bool (k == 14)) s rfl fun _ s => q1 ?_;cases hc57 : (k == 14)
              ·
               rw [hc57] at s;have hp58 : ¬ (k = 14) := by first | simpa using hc57 | simpa [and_assoc] using hc57
               refine co_false s rfl <| wp_skip <| co_blockN <| co_then <| q2 ?_;refine pk0 (v := .string (⟨#[]⟩)) s rfl fun _ s => q4 ?_;refine co_ret1 s rfl rfl ?_;exact ⟨by rw [show pstr k = ⟨#[]⟩ by unfold pstr ptL; first | (rw [if_pos (by omega)]; done) | (simp (config := {decide := true}) only [show ¬ k = 1 by omega, if_false]; simp_all; done) | (repeat (first | rw [if_pos (by omega)] | rw [if_neg (by omega)]))], hB0⟩
              rw [hc57] at s;have hp60 : k = 14 := by first | simpa using hc57 | simpa [and_assoc] using hc57
              refine co_true s rfl <| q2 ?_;refine pk0 (v := .string (⟨#[113, 110]⟩)) s rfl fun _ s => q4 <| qr ?_;refine co_ret1 s rfl rfl ?_;exact ⟨by rw [show pstr k = ⟨#[113, 110]⟩ by unfold pstr ptL; first | (rw [if_pos (by omega)]; done) | (simp (config := {decide := true}) only [show ¬ k = 1 by omega, if_false]; simp_all; done) | (repeat (first | rw [if_pos (by omega)] | rw [if_neg (by omega)]))], hB0⟩
             rw [hc53] at s;have hp62 : k = 13 := by first | simpa using hc53 | simpa [and_assoc] using hc53
             refine co_true s rfl <| q0 ?_;refine co_true s rfl <| q2 ?_;refine pk0 (v := .string (⟨#[113, 110]⟩)) s rfl fun _ s => q4 <| qr ?_;refine co_ret1 s rfl rfl ?_;exact ⟨by rw [show pstr k = ⟨#[113, 110]⟩ by unfold pstr ptL; first | (rw [if_pos (by omega)]; done) | (simp (config := {decide := true}) only [show ¬ k = 1 by omega, if_false]; simp_all; done) | (repeat (first | rw [if_pos (by omega)] | rw [if_neg (by omega)]))], hB0⟩
            rw [hc49] at s;have hp64 : k = 12 := by first | simpa using hc49 | simpa [and_assoc] using hc49
            refine co_true s rfl <| q0 ?_;refine co_true s rfl <| q2 ?_;refine pk0 (v := .string (⟨#[113, 110]⟩)) s rfl fun _ s => q4 <| qr ?_;refine co_ret1 s rfl rfl ?_;exact ⟨by rw [show pstr k = ⟨#[113, 110]⟩ by unfold pstr ptL; first | (rw [if_pos (by omega)]; done) | (simp (config := {decide := true}) only [show ¬ k = 1 by omega, if_false]; simp_all; done) | (repeat (first | rw [if_pos (by omega)] | rw [if_neg (by omega)]))], hB0⟩
           rw [hc45] at s;have hp66 : k = 10 := by first | simpa using hc45 | simpa [and_assoc] using hc45
           refine co_true s rfl <| q2 ?_;refine pk0 (v := .string (⟨#[113, 107, 97, 102, 82]⟩)) s rfl fun _ s => q4 <| qr ?_;refine co_ret1 s rfl rfl ?_;exact ⟨by rw [show pstr k = ⟨#[113, 107, 97, 102, 82]⟩ by unfold pstr ptL; first | (rw [if_pos (by omega)]; done) | (simp (config := {decide := true}) only [show ¬ k = 1 by omega, if_false]; simp_all; done) | (repeat (first | rw [if_pos (by omega)] | rw [if_neg (by omega)]))], hB0⟩
          rw [hc41] at s;have hp68 : k = 9 := by first | simpa using hc41 | simpa [and_assoc] using hc41
          refine co_true s rfl <| q2 ?_;refine pk0 (v := .string (⟨#[113, 107, 116, 97, 110]⟩)) s rfl fun _ s => q4 <| qr ?_;refine co_ret1 s rfl rfl ?_;exact ⟨by rw [show pstr k = ⟨#[113, 107, 116, 97, 110]⟩ by unfold pstr ptL; first | (rw [if_pos (by omega)]; done) | (simp (config := {decide := true}) only [show ¬ k = 1 by omega, if_false]; simp_all; done) | (repeat (first | rw [if_pos (by omega)] | rw [if_neg (by omega)]))], hB0⟩
         rw [hc37] at s;have hp70 : k = 8 := by first | simpa using hc37 | simpa [and_assoc] using hc37
         refine co_true s rfl <| q2 ?_;refine pk0 (v := .string (⟨#[113, 107, 97]⟩)) s rfl fun _ s => q4 <| qr ?_;refine co_ret1 s rfl rfl ?_;exact ⟨by rw [show pstr k = ⟨#[113, 107, 97]⟩ by unfold pstr ptL; first | (rw [if_pos (by omega)]; done) | (simp (config := {decide := true}) only [show ¬ k = 1 by omega, if_false]; simp_all; done) | (repeat (first | rw [if_pos (by omega)] | rw [if_neg (by omega)]))], hB0⟩
        rw [hc33] at s;have hp72 : k = 7 := by first | simpa using hc33 | simpa [and_assoc] using hc33
        refine co_true s rfl <| q2 ?_;refine pk0 (v := .string (⟨#[113, 120, 101, 110]⟩)) s rfl fun _ s => q4 <| qr ?_;refine co_ret1 s rfl rfl ?_;exact ⟨by rw [show pstr k = ⟨#[113, 120, 101, 110]⟩ by unfold pstr ptL; first | (rw [if_pos (by omega)]; done) | (simp (config := {decide := true}) only [show ¬ k = 1 by omega, if_false]; simp_all; done) | (repeat (first | rw [if_pos (by omega)] | rw [if_neg (by omega)]))], hB0⟩
       rw [hc29] at s;have hp74 : k = 11 := by first | simpa using hc29 | simpa [and_assoc] using hc29
       refine co_true s rfl <| q2 ?_;refine pk0 (v := .string (⟨#[113, 97]⟩)) s rfl fun _ s => q4 <| qr ?_;refine co_ret1 s rfl rfl ?_;exact ⟨by rw [show pstr k = ⟨#[113, 97]⟩ by unfold pstr ptL; first | (rw [if_pos (by omega)]; done) | (simp (config := {decide := true}) only [show ¬ k = 1 by omega, if_false]; simp_all; done) | (repeat (first | rw [if_pos (by omega)] | rw [if_neg (by omega)]))], hB0⟩
      rw [hc25] at s;have hp76 : k = 6 := by first | simpa using hc25 | simpa [and_assoc] using hc25
      refine co_true s rfl <| q0 ?_;refine co_true s rfl <| q2 ?_;refine pk0 (v := .string (⟨#[113, 97]⟩)) s rfl fun _ s => q4 <| qr ?_;refine co_ret1 s rfl rfl ?_;exact ⟨by rw [show pstr k = ⟨#[113, 97]⟩ by unfold pstr ptL; first | (rw [if_pos (by omega)]; done) | (simp (config := {decide := true}) only [show ¬ k = 1 by omega, if_false]; simp_all; done) | (repeat (first | rw [if_pos (by omega)] | rw [if_neg (by omega)]))], hB0⟩
     rw [hc21] at s;have hp78 : k = 5 := by first | simpa using hc21 | simpa [and_assoc] using hc21
     refine co_true s rfl <| q2 ?_;refine pk0 (v := .string (⟨#[101, 66]⟩)) s rfl fun _ s => q4 <| qr ?_;refine co_ret1 s rfl rfl ?_;exact ⟨by rw [show pstr k = ⟨#[101, 66]⟩ by unfold pstr ptL; first | (rw [if_pos (by omega)]; done) | (simp (config := {decide := true}) only [show ¬ k = 1 by omega, if_false]; simp_all; done) | (repeat (first | rw [if_pos (by omega)] | rw [if_neg (by omega)]))], hB0⟩
    rw [hc17] at s;have hp80 : k = 4 := by first | simpa using hc17 | simpa [and_assoc] using hc17
    refine co_true s rfl <| q2 ?_;refine pk0 (v := .string (⟨#[101, 110, 109, 112, 83]⟩)) s rfl fun _ s => q4 <| qr ?_;refine co_ret1 s rfl rfl ?_;exact ⟨by rw [show pstr k = ⟨#[101, 110, 109, 112, 83]⟩ by unfold pstr ptL; first | (rw [if_pos (by omega)]; done) | (simp (config := {decide := true}) only [show ¬ k = 1 by omega, if_false]; simp_all; done) | (repeat (first | rw [if_pos (by omega)] | rw [if_neg (by omega)]))], hB0⟩
   rw [hc13] at s;have hp82 : k = 3 := by first | simpa using hc13 | simpa [and_assoc] using hc13
   refine co_true s rfl <| q2 ?_;refine pk0 (v := .string (⟨#[101, 110, 109, 112, 113, 97, 76]⟩)) s rfl fun _ s => q4 <| qr ?_;refine co_ret1 s rfl rfl ?_;exact ⟨by rw [show pstr k = ⟨#[101, 110, 109, 112, 113, 97, 76]⟩ by unfold pstr ptL; first | (rw [if_pos (by omega)]; done) | (simp (config := {decide := true}) only [show ¬ k = 1 by omega, if_false]; simp_all; done) | (repeat (first | rw [if_pos (by omega)] | rw [if_neg (by omega)]))], hB0⟩
  rw [hc9] at s;have hp84 : k = 2 := by first | simpa using hc9 | simpa [and_assoc] using hc9
  refine co_true s rfl <| q2 ?_;refine pk0 (v := .string (⟨#[101, 115, 102, 97, 108]⟩)) s rfl fun _ s => q4 <| qr ?_;refine co_ret1 s rfl rfl ?_;exact ⟨by rw [show pstr k = ⟨#[101, 115, 102, 97, 108]⟩ by unfold pstr ptL; first | (rw [if_pos (by omega)]; done) | (simp (config := {decide := true}) only [show ¬ k = 1 by omega, if_false]; simp_all; done) | (repeat (first | rw [if_pos (by omega)] | rw [if_neg (by omega)]))], hB0⟩
 rw [hc5] at s;have hp86 : k = 1 := by first | simpa using hc5 | simpa [and_assoc] using hc5
 refine co_true s rfl <| q2 ?_;refine pk0 (v := .string (⟨#[67, 97]⟩)) s rfl fun _ s => q4 <| qr ?_;refine co_ret1 s rfl rfl ?_;exact ⟨by rw [show pstr k = ⟨#[67, 97]⟩ by unfold pstr ptL; first | (rw [if_pos (by omega)]; done) | (simp (config := {decide := true}) only [show ¬ k = 1 by omega, if_false]; simp_all; done) | (repeat (first | rw [if_pos (by omega)] | rw [if_neg (by omega)]))], hB0⟩
set_option maxRecDepth 100000 in
theorem mNumber_any (B : Nat) (d : MsgD) (mv : Value) (bv : Value) (ev : Value) (sv : Value) (pv : Value) (p : Int) (w : World) (hB : Blk w B 34 #[.int .i64 d.k, .int .i64 d.ep, .int .i64 d.rq, .int .i64 d.sr, .bool d.fg, .int .u64 d.at_, .int .u64 d.la, .int .i64 d.n, .int .i64 d.m, .int .i64 d.p, .int .i64 d.e, .string d.key, .string d.to_, .int .i64 d.cep, mv, .int .u64 d.cfl, .int .i64 d.bc, .int .i64 d.br, bv, ev, sv, pv]) (hm : SliceOf memE 2 w mv d.cms) (hb : SliceOf opE 3 w bv d.bl) (he : SliceOf entE 4 w ev d.en) (ht : SliceOf (intE .u64) 1 w sv d.st) (hp : SliceOf prE 2 w pv d.pr) :
    Calls Try.prog 42 #[pt B 0, .int .i32 p] w fun e w' => e = .returned (.int .i64 (numP d p)) ∧ Below w.heap.size w w' := by
 have hB0 := Below.refl w.heap.size w;have hl_hB := hB.lt;have hl_hm := sl_len hm;have hl_hb := sl_len hb;have hl_he := sl_len he;have hl_ht := sl_len ht;have hl_hp := sl_len hp;refine co_enter (n := 46) Try.func42 rfl rfl rfl [(0, pt B 0), (1, .int .i32 p)] rfl (fun a s => ?_);refine q2 ?_;refine pk0 (v := .int .i64 0) s rfl fun _ s => q6 ?_;refine pk0 (v := .int .i32 p) s rfl fun _ s => q1 <| wp_block <| q2 ?_;refine pk0 (v := .bool (p == 101)) s rfl fun _ s => ?_;refine pk0 (v := .bool (p == 101)) s rfl fun _ s => q1 ?_;cases hc5 : (p == 101)
 ·
  rw [hc5] at s;have hp6 : ¬ (p = 101) := by first | simpa using hc5 | simpa [and_assoc] using hc5
  refine co_false s rfl <| q2 ?_;refine pk0 (v := .bool (p == 115)) s rfl fun _ s => ?_;refine pk0 (v := .bool (p == 115)) s rfl fun _ s => q1 ?_;cases hc9 : (p == 115)
  ·
   rw [hc9] at s;have hp10 : ¬ (p = 115) := by first | simpa using hc9 | simpa [and_assoc] using hc9
   refine co_false s rfl <| q2 ?_;refine pk0 (v := .bool (p == 113)) s rfl fun _ s => ?_;refine pk0 (v := .bool (p == 113)) s rfl fun _ s => q1 ?_;cases hc13 : (p == 113)
   ·
    rw [hc13] at s;have hp14 : ¬ (p = 113) := by first | simpa using hc13 | simpa [and_assoc] using hc13
    refine co_false s rfl <| q2 ?_;refine pk0 (v := .bool (p == 110)) s rfl fun _ s => ?_;refine pk0 (v := .bool (p == 110)) s rfl fun _ s => q1 ?_;cases hc17 : (p == 110)
    ·
     rw [hc17] at s;have hp18 : ¬ (p = 110) := by first | simpa using hc17 | simpa [and_assoc] using hc17
     refine co_false s rfl <| q2 ?_;refine pk0 (v := .bool (p == 109)) s rfl fun _ s => ?_;refine pk0 (v := .bool (p == 109)) s rfl fun _ s => q1 ?_;cases hc21 : (p == 109)
     ·
      rw [hc21] at s;have hp22 : ¬ (p = 109) := by first | simpa using hc21 | simpa [and_assoc] using hc21
      refine co_false s rfl <| q2 ?_;refine pk0 (v := .bool (p == 112)) s rfl fun _ s => ?_;refine pk0 (v := .bool (p == 112)) s rfl fun _ s => q1 ?_;cases hc25 : (p == 112)
      ·
       rw [hc25] at s;have hp26 : ¬ (p = 112) := by first | simpa using hc25 | simpa [and_assoc] using hc25
       refine co_false s rfl <| wp_skip <| co_blockN <| co_then <| q2 ?_;refine pk0 (v := pt B 0) s rfl fun _ s => ?_;refine pk0 (v := pt B 0) s rfl fun _ s => ?_;refine pk0 (v := pt B 10) s rfl fun _ s => ?_;refine pk (v := .int .i64 d.e) s rfl (rn_load1 rfl rfl Try.isAgg23 (hB.cell rfl)) fun _ s => ?_;refine pk0 (v := .int .i64 d.e) s rfl fun _ s => q4 ?_;refine co_ret1 s rfl rfl ?_;exact ⟨ret_int (np_7 (by omega)), hB0⟩
      rw [hc25] at s;have hp32 : p = 112 := by first | simpa using hc25 | simpa [and_assoc] using hc25
      refine co_true s rfl <| q2 ?_;refine pk0 (v := pt B 0) s rfl fun _ s => ?_;refine pk0 (v := pt B 0) s rfl fun _ s => ?_;refine pk0 (v := pt B 9) s rfl fun _ s => ?_;refine pk (v := .int .i64 d.p) s rfl (rn_load1 rfl rfl Try.isAgg3 (hB.cell rfl)) fun _ s => ?_;refine pk0 (v := .int .i64 d.p) s rfl fun _ s => q4 <| qr ?_;refine co_ret1 s rfl rfl ?_;exact ⟨ret_int (np_6 (by omega)), hB0⟩
     rw [hc21] at s;have hp38 : p = 109 := by first | simpa using hc21 | simpa [and_assoc] using hc21
     refine co_true s rfl <| q2 ?_;refine pk0 (v := pt B 0) s rfl fun _ s => ?_;refine pk0 (v := pt B 0) s rfl fun _ s => ?_;refine pk0 (v := pt B 8) s rfl fun _ s => ?_;refine pk (v := .int .i64 d.m) s rfl (rn_load1 rfl rfl Try.isAgg3 (hB.cell rfl)) fun _ s => ?_;refine pk0 (v := .int .i64 d.m) s rfl fun _ s => q4 <| qr ?_;refine co_ret1 s rfl rfl ?_;exact ⟨ret_int (np_5 (by omega)), hB0⟩
    rw [hc17] at s;have hp44 : p = 110 := by first | simpa using hc17 | simpa [and_assoc] using hc17
    refine co_true s rfl <| q2 ?_;refine pk0 (v := pt B 0) s rfl fun _ s => ?_;refine pk0 (v := pt B 0) s rfl fun _ s => ?_;refine pk0 (v := pt B 7) s rfl fun _ s => ?_;refine pk (v := .int .i64 d.n) s rfl (rn_load1 rfl rfl Try.isAgg3 (hB.cell rfl)) fun _ s => ?_;refine pk0 (v := .int .i64 d.n) s rfl fun _ s => q4 <| qr ?_;refine co_ret1 s rfl rfl ?_;exact ⟨ret_int (np_4 (by omega)), hB0⟩
   rw [hc13] at s;have hp50 : p = 113 := by first | simpa using hc13 | simpa [and_assoc] using hc13
   refine co_true s rfl <| q2 ?_;refine pk0 (v := pt B 0) s rfl fun _ s => ?_;refine pk0 (v := pt B 0) s rfl fun _ s => ?_;refine pk0 (v := pt B 2) s rfl fun _ s => ?_;refine pk (v := .int .i64 d.rq) s rfl (rn_load1 rfl rfl Try.isAgg3 (hB.cell rfl)) fun _ s => ?_;refine pk0 (v := .int .i64 d.rq) s rfl fun _ s => q4 <| qr ?_;refine co_ret1 s rfl rfl ?_;exact ⟨ret_int (np_3 (by omega)), hB0⟩
  rw [hc9] at s;have hp56 : p = 115 := by first | simpa using hc9 | simpa [and_assoc] using hc9
  refine co_true s rfl <| q2 ?_;refine pk0 (v := pt B 0) s rfl fun _ s => ?_;refine pk0 (v := pt B 0) s rfl fun _ s => ?_;refine pk0 (v := pt B 3) s rfl fun _ s => ?_;refine pk (v := .int .i64 d.sr) s rfl (rn_load1 rfl rfl Try.isAgg3 (hB.cell rfl)) fun _ s => ?_;refine pk0 (v := .int .i64 d.sr) s rfl fun _ s => q4 <| qr ?_;refine co_ret1 s rfl rfl ?_;exact ⟨ret_int (np_2 (by omega)), hB0⟩
 rw [hc5] at s;have hp62 : p = 101 := by first | simpa using hc5 | simpa [and_assoc] using hc5
 refine co_true s rfl <| q2 ?_;refine pk0 (v := pt B 0) s rfl fun _ s => ?_;refine pk0 (v := pt B 0) s rfl fun _ s => ?_;refine pk0 (v := pt B 1) s rfl fun _ s => ?_;refine pk (v := .int .i64 d.ep) s rfl (rn_load1 rfl rfl Try.isAgg3 (hB.cell rfl)) fun _ s => ?_;refine pk0 (v := .int .i64 d.ep) s rfl fun _ s => q4 <| qr ?_;refine co_ret1 s rfl rfl ?_;exact ⟨ret_int (np_1 (by omega)), hB0⟩
set_option maxRecDepth 100000 in
theorem mPair_any (y : PrT) (w : World)  :
    Calls Try.prog 65 #[.agg #[.string y.1, .string y.2]] w fun e w' => e = .returned (.int .i64 (chkPair y)) ∧ Below w.heap.size w w' := by
 have hB0 := Below.refl w.heap.size w;refine co_enter (n := 14) Try.func65 rfl rfl rfl [(0, .agg #[.string y.1, .string y.2])] rfl (fun a s => ?_);refine q2 ?_;refine pw s rfl (op_new (v := fun N => pt N 0) (T := 84) (cs := #[.string y.1, .string y.2]) (by kernel_rfl) (by kernel_rfl) (by kernel_rfl)) ?_;rintro _ w2 a1 ⟨N3, rfl, hN6, hz7, hk5, hg4⟩ s;have hz8 := hg4.size
 try dsimp only at s
 refine pk0 (v := .int .i64 0) s rfl fun _ s => q6 ?_;refine pk0 (v := pt N3 0) s rfl fun _ s => ?_;refine pk (v := .string y.1) s rfl (rn_load1 rfl rfl Try.isAgg9 (hk5.cell rfl)) fun _ s => ?_;refine pw s rfl (op_call (args := #[.string y.1]) (R := fun res xw => res = .int .i64 (keyC y.1) ∧ Below w2.heap.size w2 xw) rfl rfl rfl (by kernel_rfl) (by kernel_rfl) (Try.call81 _ _) (pKey_any y.1 w2 ) (by rintro e x ⟨rfl, hb14⟩; exact ⟨_, rfl, ⟨rfl, hb14⟩⟩)) ?_;rintro _ w13 a12 ⟨rfl, hb14⟩ s;have hz15 := hb14.size;refine pk0 (v := .int .i64 (keyC y.1)) s rfl fun _ s => q3 ?_;refine pk0 (v := .int .i64 (keyC y.1)) s rfl fun _ s => ?_;refine pk0 (v := .bool (keyC y.1 != 0)) s rfl fun _ s => q1 ?_;have hB20 := hb_new hB0 hg4;have hB21 := hb_call hB20 hb14;cases hc19 : (keyC y.1 != 0)
 ·
  rw [hc19] at s;have hp22 : ¬ (keyC y.1 ≠ 0) := by first | simpa using hc19 | simpa [and_assoc] using hc19
  refine co_false s rfl <| q8 ?_;refine pk0 (v := pt N3 1) s rfl fun _ s => ?_;have hk24 := hk5.below hb14;refine pk (v := .string y.2) s rfl (rn_load1 rfl rfl Try.isAgg9 (hk24.cell rfl)) fun _ s => ?_;refine pk (v := .int .i64 (y.2.size : Int)) s rfl (rn_lenStr rfl rfl Try.underlying9) fun _ s => ?_;refine pk0 (v := .bool (decide ((y.2.size : Int) > 8))) s rfl fun _ s => q1 ?_;cases hc28 : (decide ((y.2.size : Int) > 8))
  ·
   rw [hc28] at s;have hp29 : ¬ ((y.2.size : Int) > 8) := of_decide_eq_false hc28;refine co_false s rfl <| q7 ?_;refine pk0 (v := .int .i64 0) s rfl fun _ s => q4 ?_;refine co_ret1 s rfl rfl ?_;exact ⟨ret_int (by unfold chkPair; first | rw [if_pos (by assumption)] | (rw [if_neg (by omega), if_pos (by omega)]) | (rw [if_neg (by omega), if_neg (by omega)])), hB21⟩
  rw [hc28] at s;have hp31 : (y.2.size : Int) > 8 := of_decide_eq_true hc28;refine co_true s rfl <| q2 ?_;refine pk0 (v := .int .i64 3) s rfl fun _ s => q5 ?_;refine co_ret1 s rfl rfl ?_;exact ⟨ret_int (by unfold chkPair; first | rw [if_pos (by assumption)] | (rw [if_neg (by omega), if_pos (by omega)]) | (rw [if_neg (by omega), if_neg (by omega)])), hB21⟩
 rw [hc19] at s;have hp33 : keyC y.1 ≠ 0 := by first | simpa using hc19 | simpa [and_assoc] using hc19
 refine co_true s rfl <| q2 ?_;refine pk0 (v := .int .i64 (keyC y.1)) s rfl fun _ s => ?_;refine pk0 (v := .int .i64 (keyC y.1)) s rfl fun _ s => q5 ?_;refine co_ret1 s rfl rfl ?_;exact ⟨ret_int (by unfold chkPair; first | rw [if_pos (by assumption)] | (rw [if_neg (by omega), if_pos (by omega)]) | (rw [if_neg (by omega), if_neg (by omega)])), hB21⟩
set_option maxRecDepth 100000 in
theorem mStamp_any (y : Int) (w : World)  :
    Calls Try.prog 63 #[.int .u64 y] w fun e w' => e = .returned (.int .i64 (chkSt y)) ∧ Below w.heap.size w w' := by
 have hB0 := Below.refl w.heap.size w;refine co_enter (n := 3) Try.func63 rfl rfl rfl [(0, .int .u64 y)] rfl (fun a s => ?_);refine q2 ?_;refine pk0 (v := .int .i64 0) s rfl fun _ s => q3 ?_;refine pk0 (v := .int .i64 0) s rfl fun _ s => q4 ?_;refine co_ret1 s rfl rfl ?_;exact ⟨rfl, hB0⟩
set_option maxRecDepth 100000 in
theorem mListP_any (v : Value) (l : List PrT) (w : World) (hs : SliceOf prE 2 w v l) :
    Calls Try.prog 64 #[v, .int .i64 32, .func (.func 65) #[] #[]] w fun e w' => e = .returned (.int .i64 (chkLs 32 chkPair l)) ∧ Below w.heap.size w w' := by
 have hB0 := Below.refl w.heap.size w;have hl_hs := sl_len hs;refine co_enter (n := 27) Try.func64 rfl rfl rfl [(0, v), (1, .int .i64 32), (2, .func (.func 65) #[] #[])] rfl (fun a s => ?_);refine q2 ?_;refine pk0 (v := .int .i64 0) s rfl fun _ s => q6 ?_;refine pk0 (v := v) s rfl fun _ s => ?_;refine pk (v := .int .i64 (l.length : Int)) s rfl (rn_len rfl rfl Try.underlying32 hs) fun _ s => ?_;refine pk0 (v := .int .i64 32) s rfl fun _ s => ?_;refine pk0 (v := .bool (decide ((l.length : Int) > 32))) s rfl fun _ s => q1 ?_;cases hc6 : (decide ((l.length : Int) > 32))
 ·
  rw [hc6] at s;have hp7 : ¬ ((l.length : Int) > 32) := of_decide_eq_false hc6;refine co_false s rfl <| q8 ?_;refine pk0 (v := v) s rfl fun _ s => ?_;refine pk (v := .int .i64 (l.length : Int)) s rfl (rn_len rfl rfl Try.underlying32 hs) fun _ s => ?_;refine pk0 (v := .int .i64 0) s rfl fun _ s => q1 <| wp_block ?_;have s : Slots 27 [(0, v), (1, .int .i64 32), (2, .func (.func 65) #[] #[]), (6, .int .i64 0), (14, v), (15, .int .i64 (l.length : Int)), (16, .int .i64 0)] _ := s.sub ⟨rfl, rfl, rfl, rfl, rfl, rfl, rfl, trivial⟩;refine co_loop (fun mm a x => ∃ (i : Nat), Slots 27 [(0, v), (1, .int .i64 32), (2, .func (.func 65) #[] #[]), (6, .int .i64 0), (14, v), (15, .int .i64 (l.length : Int)), (16, .int .i64 (i : Int))] a ∧ mm = l.length - i ∧ (i ≤ l.length) ∧ (chkF chkPair (l.drop i) = chkF chkPair l) ∧ Below w.heap.size w x) (l.length - 0) ?_ ?_
  · exact ⟨0, s.sub ⟨rfl, rfl, rfl, rfl, rfl, rfl, (slot_eq rfl (congrArg (Value.int .i64) (by first | rfl | omega))), trivial⟩, rfl, by omega, by first | rfl | exact hL', hB0⟩
  · rintro k12 a13 w14 ⟨i, s, rfl, hi15, hi16, hB17⟩
    have hz18 := hB17.size;have hL : chkF chkPair (l.drop i) = chkF chkPair l := by assumption
    refine q2 ?_;refine pk0 (v := .bool (decide ((i : Int) < (l.length : Int)))) s rfl fun _ s => q1 <| co_seq ?_;cases hc20 : (decide ((i : Int) < (l.length : Int)))
    ·
     rw [hc20] at s;have hp21 : ¬ ((i : Int) < (l.length : Int)) := of_decide_eq_false hc20;refine co_false s rfl <| wp_exit <| co_thenX <| co_thenX <| qx <| q2 ?_;refine pk0 (v := .int .i64 0) s rfl fun _ s => q4 ?_;refine co_ret1 s rfl rfl ?_;exact ⟨ret_int (by unfold chkLs; rw [if_neg (by omega)]; exact cF_end (i := i) hL (by omega)), hB17⟩
    rw [hc20] at s;have hp23 : (i : Int) < (l.length : Int) := of_decide_eq_true hc20;refine co_true s rfl <| q0 <| co_seq <| wp_block <| q2 ?_;obtain ⟨y24, hy24⟩ : ∃ z, l[i]? = some z := ⟨_, List.getElem?_eq_getElem (by first | omega | (simp; done) | (simp; omega))⟩;refine pk (v := pt (blkOf v) (offOf v + i * 2)) s rfl (rn_index rfl rfl rfl Try.underlying32 Try.sizeOf84 (hs.below hB17) (by omega) (by first | omega | (simp; done) | (simp; omega))) fun _ s => ?_;refine pk (v := .agg #[.string y24.1, .string y24.2]) s rfl (rn_loadN rfl rfl Try.underlying84 rfl (by kernel_rfl) (sl_at (hs.below hB17) hy24)) fun _ s => ?_;refine pw s rfl (op_new (v := fun N => pt N 0) (T := 84) (cs := #[.string (⟨#[]⟩), .string (⟨#[]⟩)]) (by kernel_rfl) (by kernel_rfl) (by kernel_rfl)) ?_;rintro _ w28 a27 ⟨N29, rfl, hN32, hz33, hk31, hg30⟩ s;have hz34 := hg30.size
    try dsimp only at s
    refine pwD s rfl (op_storeN rfl rfl rfl (by kernel_rfl) (by kernel_rfl) hk31 rfl) ?_;rintro _ w36 a35 ⟨hk37, hz38, hg39⟩ s;have hk37' : Blk w36 N29 84 #[.string y24.1, .string y24.2] := hk37;have hz40 := hg39.size;refine q3 ?_;refine pk0 (v := .func (.func 65) #[] #[]) s rfl fun _ s => ?_;refine pk (v := .agg #[.string y24.1, .string y24.2]) s rfl (rn_loadN rfl rfl Try.underlying84 rfl (by kernel_rfl) hk37'.all) fun _ s => ?_;refine pw s rfl (op_call (args := #[.agg #[.string y24.1, .string y24.2]]) (R := fun res xw => res = .int .i64 (chkPair y24) ∧ Below w36.heap.size w36 xw) rfl rfl rfl (by kernel_rfl) (by kernel_rfl) (Try.call65 _ _) (mPair_any y24 w36 ) (by rintro e x ⟨rfl, hb45⟩; exact ⟨_, rfl, ⟨rfl, hb45⟩⟩)) ?_;rintro _ w44 a43 ⟨rfl, hb45⟩ s;have hz46 := hb45.size;refine pk0 (v := .int .i64 (chkPair y24)) s rfl fun _ s => q3 ?_;refine pk0 (v := .int .i64 (chkPair y24)) s rfl fun _ s => ?_;refine pk0 (v := .bool (chkPair y24 != 0)) s rfl fun _ s => q1 ?_;have hB51 := hb_new hB17 hg30;have hB52 := hb_at hB51 hg39 (by omega);have hB53 := hb_call hB52 hb45;cases hc50 : (chkPair y24 != 0)
    ·
     rw [hc50] at s;have hp54 : ¬ (chkPair y24 ≠ 0) := by first | simpa using hc50 | simpa [and_assoc] using hc50
     refine co_false s rfl <| wp_skip <| co_blockN <| co_then <| co_reg ?_;refine pk (v := .int .i64 ((i + 1 : Nat) : Int)) s rfl (rn_arith' rfl rfl rfl rfl rfl rfl (IntWalk.i64_in _ (by omega)) (by omega)) fun _ s => ?_;refine pk0 (v := .int .i64 ((i + 1 : Nat) : Int)) s rfl fun _ s => q1 ?_;refine ⟨(l.length - (i + 1)), by omega, ?_⟩;have hL' := cF_step (f := chkPair) hL hy24 (by first | omega | (unfold chkEn; omega));exact ⟨i + 1, s.sub ⟨rfl, rfl, rfl, rfl, rfl, rfl, rfl, trivial⟩, rfl, by omega, by first | rfl | exact hL', hB53⟩
    rw [hc50] at s;have hp57 : chkPair y24 ≠ 0 := by first | simpa using hc50 | simpa [and_assoc] using hc50
    refine co_true s rfl <| q2 ?_;refine pk0 (v := .int .i64 (chkPair y24)) s rfl fun _ s => ?_;refine pk0 (v := .int .i64 (chkPair y24)) s rfl fun _ s => q4 <| qr <| co_thenR <| qr ?_;refine co_ret1 s rfl rfl ?_;exact ⟨ret_int (by unfold chkLs; rw [if_neg (by omega)]; exact cF_bad (f := chkPair) (i := i) hL hy24 (by first | omega | (unfold chkEn; omega))), hB53⟩
 rw [hc6] at s;have hp60 : (l.length : Int) > 32 := of_decide_eq_true hc6;refine co_true s rfl <| q2 ?_;refine pk0 (v := .int .i64 6) s rfl fun _ s => q5 ?_;refine co_ret1 s rfl rfl ?_;exact ⟨ret_int (by unfold chkLs; rw [if_pos (by omega)]), hB0⟩
set_option maxRecDepth 100000 in
theorem mListS_any (v : Value) (l : List Int) (w : World) (hs : SliceOf (intE .u64) 1 w v l) (hok : ∀ z ∈ l, (fun t : Int => 0 ≤ t ∧ t < 18446744073709551616) z) :
    Calls Try.prog 62 #[v, .int .i64 8, .func (.func 63) #[] #[]] w fun e w' => e = .returned (.int .i64 (chkLs 8 chkSt l)) ∧ Below w.heap.size w w' := by
 have hB0 := Below.refl w.heap.size w;have hl_hs := sl_len hs;refine co_enter (n := 27) Try.func62 rfl rfl rfl [(0, v), (1, .int .i64 8), (2, .func (.func 63) #[] #[])] rfl (fun a s => ?_);refine q2 ?_;refine pk0 (v := .int .i64 0) s rfl fun _ s => q6 ?_;refine pk0 (v := v) s rfl fun _ s => ?_;refine pk (v := .int .i64 (l.length : Int)) s rfl (rn_len rfl rfl Try.underlying31 hs) fun _ s => ?_;refine pk0 (v := .int .i64 8) s rfl fun _ s => ?_;refine pk0 (v := .bool (decide ((l.length : Int) > 8))) s rfl fun _ s => q1 ?_;cases hc6 : (decide ((l.length : Int) > 8))
 ·
  rw [hc6] at s;have hp7 : ¬ ((l.length : Int) > 8) := of_decide_eq_false hc6;refine co_false s rfl <| q8 ?_;refine pk0 (v := v) s rfl fun _ s => ?_;refine pk (v := .int .i64 (l.length : Int)) s rfl (rn_len rfl rfl Try.underlying31 hs) fun _ s => ?_;refine pk0 (v := .int .i64 0) s rfl fun _ s => q1 <| wp_block ?_;have s : Slots 27 [(0, v), (1, .int .i64 8), (2, .func (.func 63) #[] #[]), (6, .int .i64 0), (14, v), (15, .int .i64 (l.length : Int)), (16, .int .i64 0)] _ := s.sub ⟨rfl, rfl, rfl, rfl, rfl, rfl, rfl, trivial⟩;refine co_loop (fun mm a x => ∃ (i : Nat), Slots 27 [(0, v), (1, .int .i64 8), (2, .func (.func 63) #[] #[]), (6, .int .i64 0), (14, v), (15, .int .i64 (l.length : Int)), (16, .int .i64 (i : Int))] a ∧ mm = l.length - i ∧ (i ≤ l.length) ∧ (chkF chkSt (l.drop i) = chkF chkSt l) ∧ Below w.heap.size w x) (l.length - 0) ?_ ?_
  · exact ⟨0, s.sub ⟨rfl, rfl, rfl, rfl, rfl, rfl, (slot_eq rfl (congrArg (Value.int .i64) (by first | rfl | omega))), trivial⟩, rfl, by omega, by first | rfl | exact hL', hB0⟩
  · rintro k12 a13 w14 ⟨i, s, rfl, hi15, hi16, hB17⟩
    have hz18 := hB17.size;have hL : chkF chkSt (l.drop i) = chkF chkSt l := by assumption
    refine q2 ?_;refine pk0 (v := .bool (decide ((i : Int) < (l.length : Int)))) s rfl fun _ s => q1 <| co_seq ?_;cases hc20 : (decide ((i : Int) < (l.length : Int)))
    ·
     rw [hc20] at s;have hp21 : ¬ ((i : Int) < (l.length : Int)) := of_decide_eq_false hc20;refine co_false s rfl <| wp_exit <| co_thenX <| co_thenX <| qx <| q2 ?_;refine pk0 (v := .int .i64 0) s rfl fun _ s => q4 ?_;refine co_ret1 s rfl rfl ?_;exact ⟨ret_int (by unfold chkLs; rw [if_neg (by omega)]; exact cF_end (i := i) hL (by omega)), hB17⟩
    rw [hc20] at s;have hp23 : (i : Int) < (l.length : Int) := of_decide_eq_true hc20;refine co_true s rfl <| q0 <| co_seq <| wp_block <| q2 ?_;obtain ⟨y24, hy24⟩ : ∃ z, l[i]? = some z := ⟨_, List.getElem?_eq_getElem (by first | omega | (simp; done) | (simp; omega))⟩;have oky24 := hok _ (List.mem_of_getElem? hy24);have k25 : 0 ≤ y24 ∧ y24 < 18446744073709551616 := oky24;refine pk (v := pt (blkOf v) (offOf v + i * 1)) s rfl (rn_index rfl rfl rfl Try.underlying31 Try.sizeOf22 (hs.below hB17) (by omega) (by first | omega | (simp; done) | (simp; omega))) fun _ s => ?_;refine pk (v := .int .u64 y24) s rfl (rn_load1 rfl rfl Try.isAgg22 ((sl_at (hs.below hB17) hy24) 0 _ rfl)) fun _ s => ?_;refine pk0 (v := .int .u64 y24) s rfl fun _ s => q3 ?_;refine pk0 (v := .func (.func 63) #[] #[]) s rfl fun _ s => ?_;refine pk0 (v := .int .u64 y24) s rfl fun _ s => ?_;refine pw s rfl (op_call (args := #[.int .u64 y24]) (R := fun res xw => res = .int .i64 (chkSt y24) ∧ Below w14.heap.size w14 xw) rfl rfl rfl (by kernel_rfl) (by kernel_rfl) (Try.call63 _ _) (mStamp_any y24 w14 ) (by rintro e x ⟨rfl, hb33⟩; exact ⟨_, rfl, ⟨rfl, hb33⟩⟩)) ?_;rintro _ w32 a31 ⟨rfl, hb33⟩ s;have hz34 := hb33.size;refine pk0 (v := .int .i64 (chkSt y24)) s rfl fun _ s => q3 ?_;refine pk0 (v := .int .i64 (chkSt y24)) s rfl fun _ s => ?_;refine pk0 (v := .bool (chkSt y24 != 0)) s rfl fun _ s => q1 ?_;have hB39 := hb_call hB17 hb33;cases hc38 : (chkSt y24 != 0)
    ·
     rw [hc38] at s;have hp40 : ¬ (chkSt y24 ≠ 0) := by first | simpa using hc38 | simpa [and_assoc] using hc38
     refine co_false s rfl <| wp_skip <| co_blockN <| co_then <| co_reg ?_;refine pk (v := .int .i64 ((i + 1 : Nat) : Int)) s rfl (rn_arith' rfl rfl rfl rfl rfl rfl (IntWalk.i64_in _ (by omega)) (by omega)) fun _ s => ?_;refine pk0 (v := .int .i64 ((i + 1 : Nat) : Int)) s rfl fun _ s => q1 ?_;refine ⟨(l.length - (i + 1)), by omega, ?_⟩;have hL' := cF_step (f := chkSt) hL hy24 (by first | omega | (unfold chkEn; omega));exact ⟨i + 1, s.sub ⟨rfl, rfl, rfl, rfl, rfl, rfl, rfl, trivial⟩, rfl, by omega, by first | rfl | exact hL', hB39⟩
    rw [hc38] at s;have hp43 : chkSt y24 ≠ 0 := by first | simpa using hc38 | simpa [and_assoc] using hc38
    refine co_true s rfl <| q2 ?_;refine pk0 (v := .int .i64 (chkSt y24)) s rfl fun _ s => ?_;refine pk0 (v := .int .i64 (chkSt y24)) s rfl fun _ s => q4 <| qr <| co_thenR <| qr ?_;refine co_ret1 s rfl rfl ?_;exact ⟨ret_int (by unfold chkLs; rw [if_neg (by omega)]; exact cF_bad (f := chkSt) (i := i) hL hy24 (by first | omega | (unfold chkEn; omega))), hB39⟩
 rw [hc6] at s;have hp46 : (l.length : Int) > 8 := of_decide_eq_true hc6;refine co_true s rfl <| q2 ?_;refine pk0 (v := .int .i64 6) s rfl fun _ s => q5 ?_;refine co_ret1 s rfl rfl ?_;exact ⟨ret_int (by unfold chkLs; rw [if_pos (by omega)]), hB0⟩
end Go.Proofs.Ytcbagajjgbfgdaa
