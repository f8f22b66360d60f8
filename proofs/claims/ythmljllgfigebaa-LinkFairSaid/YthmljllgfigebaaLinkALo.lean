/- Package link: what a link holds, what its calls answer, in plain words; a link as an object. Conditions: none. -/
import Derived.Test.YthmljllgfigebaaGoLo
import Derived.Test.YthmljllgfigebaaPexVLo
import Derived.Test.YthmljllgfigebaaStrs
import Derived.Test.YthmljllgfigebaaApp
import Derived.Shelf.Sort.Plain
import Derived.BigQuiet
namespace Go.Proofs.Ythmljllgfigebaa
open Go.RowKit Go.PlainAid Go.Shelf
set_option linter.unusedVariables false

/-- A segment. -/
structure SegT where
  boot : Int
  stream : Int
  seq : Int
  ab : Int
  ast : Int
  asq : Int
  has : Bool
  body : ByteArray
def segE (s : SegT) : List Value := [.int .i64 s.boot, .int .i64 s.stream, .int .i64 s.seq, .int .i64 s.ab, .int .i64 s.ast, .int .i64 s.asq, .bool s.has, .string s.body]
def segV (s : SegT) : Value := .agg #[.int .i64 s.boot, .int .i64 s.stream, .int .i64 s.seq, .int .i64 s.ab, .int .i64 s.ast, .int .i64 s.asq, .bool s.has, .string s.body]
/-- What a link holds. -/
structure LnT where
  boot : Int
  stream : Int
  first : Int
  q : List ByteArray
  told : Int
  peer : Int
  in0 : Int
  next : Int
  owes : Bool
def LnT.seg (L : LnT) (seq : Int) (has : Bool) (body : ByteArray) : SegT := ⟨L.boot, L.stream, seq, L.peer, L.in0, L.next, has, body⟩
def newLn (boot : Int) : LnT := ⟨boot, 1, 0, [], 0, 0, 0, 0, false⟩
def eachL (L : LnT) (f t : Nat) : List (Int × ByteArray) := (List.range' f (t - f)).map fun i : Nat => (L.first + (i : Int), L.q.getD i ⟨#[]⟩)
def outsL (L : LnT) (f t : Nat) : List SegT := (eachL L f t).map fun p => L.seg p.1 true p.2
def LnT.fr (L : LnT) (again : Bool) : Nat := if again = true then 0 else L.told.toNat
def LnT.to (L : LnT) : Nat := min 4 L.q.length
/-- What is to be told from f on, below t. -/
def segsL (L : LnT) (f t : Nat) : List SegT := if t ≤ f then (if L.owes = true then [L.seg L.first false ⟨#[]⟩] else []) else outsL L f t
def outT (L : LnT) (again : Bool) : List SegT := segsL L (L.fr again) L.to
def outN (L : LnT) : LnT := { L with owes := false, told := max L.told (L.to : Int) }
def sendT (L : LnT) (s : ByteArray) : Int × LnT := if 65536 < s.size then (3, L) else if 8 ≤ L.q.length then (6, L) else (0, { L with q := L.q ++ [s] })
def bnd (n : Int) : Bool := decide (0 ≤ n) && decide (n ≤ 1073741824)
def mayT (s : SegT) : Bool := bnd s.boot && bnd s.stream && bnd s.seq && bnd s.ab && bnd s.ast && bnd s.asq && (s.boot != 0)
def knowT (L : LnT) (s : SegT) : LnT :=
  if L.peer < s.boot then (if L.peer = 0 then { L with peer := s.boot, in0 := s.stream, next := 0 } else { L with stream := L.stream + 1, first := 0, told := 0, peer := s.boot, in0 := s.stream, next := 0 })
  else if L.in0 < s.stream then { L with in0 := s.stream, next := 0 } else L
/-- So many texts go. -/
def goneN (L : LnT) (n : Int) : Nat := min (n - L.first).toNat L.q.length
def popT (L : LnT) (n : Int) : LnT := { L with first := L.first + (goneN L n : Int), q := L.q.drop (goneN L n), told := max (L.told - (goneN L n : Int)) 0 }
def ackT (L : LnT) (s : SegT) : LnT := if s.ab = L.boot ∧ s.ast = L.stream then popT L s.asq else L
def inT (L : LnT) (s : SegT) : List ByteArray × Int × LnT :=
  if mayT s = false then ([], 1, L)
  else if s.boot < L.peer then ([], 0, L)
  else if s.has = false then ([], 0, ackT (knowT L s) s)
  else if s.ab = L.boot ∧ s.stream = (ackT (knowT L s) s).in0 ∧ s.seq = (ackT (knowT L s) s).next then ([s.body], 0, { ackT (knowT L s) s with owes := true, next := (ackT (knowT L s) s).next + 1 })
  else ([], 0, { ackT (knowT L s) s with owes := true })

structure LnOk (L : LnT) : Prop where
  boot : 1 ≤ L.boot ∧ L.boot ≤ 1073741824
  stream : 1 ≤ L.stream ∧ L.stream ≤ L.peer + 1
  first : 0 ≤ L.first ∧ L.first ≤ 1073741824
  told : 0 ≤ L.told ∧ L.told ≤ 4
  peer : 0 ≤ L.peer ∧ L.peer ≤ 1073741824
  in0 : 0 ≤ L.in0 ∧ L.in0 ≤ 1073741824
  next : 0 ≤ L.next ∧ L.next ≤ 1073741825
  len : L.q.length ≤ 8
  txt : ∀ s ∈ L.q, s.size ≤ 65536
theorem bnd_iff {n : Int} : bnd n = true ↔ 0 ≤ n ∧ n ≤ 1073741824 := by unfold bnd; simp
theorem mayT_iff {s : SegT} : mayT s = true ↔ (0 ≤ s.boot ∧ s.boot ≤ 1073741824) ∧ (0 ≤ s.stream ∧ s.stream ≤ 1073741824) ∧ (0 ≤ s.seq ∧ s.seq ≤ 1073741824) ∧ (0 ≤ s.ab ∧ s.ab ≤ 1073741824) ∧ (0 ≤ s.ast ∧ s.ast ≤ 1073741824) ∧ (0 ≤ s.asq ∧ s.asq ≤ 1073741824) ∧ s.boot ≠ 0 := by
  unfold mayT; simp only [Bool.and_eq_true, bnd_iff, bne_iff_ne, and_assoc]
theorem newLn_ok {boot : Int} (h : 1 ≤ boot ∧ boot ≤ 1073741824) : LnOk (newLn boot) :=
  ⟨h, ⟨by simp [newLn], by simp [newLn]⟩, ⟨by simp [newLn], by simp [newLn]⟩, ⟨by simp [newLn], by simp [newLn]⟩, ⟨by simp [newLn], by simp [newLn]⟩, ⟨by simp [newLn], by simp [newLn]⟩, ⟨by simp [newLn], by simp [newLn]⟩, by simp [newLn], by simp [newLn]⟩
theorem sendT_ok {L : LnT} (h : LnOk L) (s : ByteArray) : LnOk (sendT L s).2 := by
  unfold sendT
  split
  · exact h
  · split
    · exact h
    · exact ⟨h.boot, h.stream, h.first, h.told, h.peer, h.in0, h.next, by simp; omega, fun x hx => by rcases List.mem_append.1 hx with hx | hx; exact h.txt x hx; simp at hx; subst hx; omega⟩
theorem LnT.to_le (L : LnT) : L.to ≤ 4 ∧ L.to ≤ L.q.length := by unfold LnT.to; omega
theorem outN_ok {L : LnT} (h : LnOk L) : LnOk (outN L) :=
  ⟨h.boot, h.stream, h.first, ⟨by show 0 ≤ max L.told (L.to : Int); omega, by have := h.told; have := L.to_le; show max L.told (L.to : Int) ≤ 4; omega⟩, h.peer, h.in0, h.next, h.len, h.txt⟩
theorem knowT_ok {L : LnT} (h : LnOk L) {s : SegT} (hs : mayT s = true) : LnOk (knowT L s) := by
  obtain ⟨h1, h2, h3, h4, h5, h6, h7⟩ := mayT_iff.1 hs
  have h8 := h.stream; have h9 := h.peer
  unfold knowT
  split
  · split
    · exact ⟨h.boot, ⟨h8.1, by show L.stream ≤ s.boot + 1; omega⟩, h.first, h.told, h1, h2, ⟨by simp [newLn], by simp [newLn]⟩, h.len, h.txt⟩
    · exact ⟨h.boot, ⟨by show 1 ≤ L.stream + 1; omega, by show L.stream + 1 ≤ s.boot + 1; omega⟩, ⟨by simp [newLn], by simp [newLn]⟩, ⟨by simp [newLn], by simp [newLn]⟩, h1, h2, ⟨by simp [newLn], by simp [newLn]⟩, h.len, h.txt⟩
  · split
    · exact ⟨h.boot, h.stream, h.first, h.told, h.peer, h2, ⟨by simp [newLn], by simp [newLn]⟩, h.len, h.txt⟩
    · exact h
theorem goneN_le (L : LnT) (n : Int) : goneN L n ≤ L.q.length := by unfold goneN; omega
theorem popT_ok {L : LnT} (h : LnOk L) {n : Int} (hn : 0 ≤ n ∧ n ≤ 1073741824) : LnOk (popT L n) := by
  have h1 := h.first; have h2 := h.told; have h3 := goneN_le L n; have h4 := h.len
  have h5 : (goneN L n : Int) ≤ (n - L.first).toNat := by unfold goneN; omega
  exact ⟨h.boot, h.stream, ⟨by show 0 ≤ L.first + (goneN L n : Int); omega, by show L.first + (goneN L n : Int) ≤ 1073741824; omega⟩, ⟨by show 0 ≤ max (L.told - (goneN L n : Int)) 0; omega, by show max (L.told - (goneN L n : Int)) 0 ≤ 4; omega⟩, h.peer, h.in0, h.next,
    by show (L.q.drop (goneN L n)).length ≤ 8; rw [List.length_drop]; omega, fun s hs => h.txt s (List.drop_subset _ _ hs)⟩
theorem ackT_ok {L : LnT} (h : LnOk L) {s : SegT} (hs : mayT s = true) : LnOk (ackT L s) := by
  unfold ackT
  split
  · exact popT_ok h (mayT_iff.1 hs).2.2.2.2.2.1
  · exact h
theorem inT_ok {L : LnT} (h : LnOk L) (s : SegT) : LnOk (inT L s).2.2 := by
  unfold inT
  split
  · exact h
  · split
    · exact h
    · have hk := ackT_ok (knowT_ok h (by simpa using ‹¬mayT s = false›)) (by simpa using ‹¬mayT s = false›)
      split
      · exact hk
      · split
        · have h3 := (mayT_iff.1 (by simpa using ‹¬mayT s = false›)).2.2.1
          exact ⟨hk.boot, hk.stream, hk.first, hk.told, hk.peer, hk.in0, ⟨by have := hk.next; show 0 ≤ _ + 1; omega, by rename_i _ _ _ q; show _ + 1 ≤ 1073741825; omega⟩, hk.len, hk.txt⟩
        · exact ⟨hk.boot, hk.stream, hk.first, hk.told, hk.peer, hk.in0, hk.next, hk.len, hk.txt⟩

def lnC (L : LnT) (u : Value) : Array Value := #[.int .i64 L.boot, .int .i64 L.stream, .int .i64 L.first, u, .int .i64 L.told, .int .i64 L.peer, .int .i64 L.in0, .int .i64 L.next, .bool L.owes]
/-- A link at b, its texts in u. -/
def LkU (T : TypeId) (S : Nat → Prop) (w : World) (b : Nat) (u : Value) (L : LnT) : Prop := Blk w b T (lnC L u) ∧ (∃ B, w.ownsRow B 9 1 u L.q.length (L.q.flatMap strE)) ∧ (∀ q, S q ↔ q = b ∨ u.ownBlock = some q) ∧ u.ownBlock ≠ some b ∧ LnOk L
def LkO (T : TypeId) (S : Nat → Prop) (w : World) (b : Nat) (L : LnT) : Prop := ∃ u, LkU T S w b u L
section
variable {T : TypeId} {S S' D : Nat → Prop} {w x : World} {b N : Nat} {u : Value} {L : LnT}
theorem LkU.ofS (h : LkU T S w b u L) : ∀ q, S q → q < w.heap.size := fun q hq => by
  obtain ⟨h1, ⟨B, h2⟩, h3, h4, h5⟩ := h
  rcases (h3 q).1 hq with rfl | h
  · exact h1.lt
  · exact (h2.lt q h).2
theorem LkU.keep (h : LkU T S w b u L) (hk : ∀ q, S q → x.heap[q]? = w.heap[q]?) : LkU T S x b u L := by
  obtain ⟨h1, ⟨B, h2⟩, h3, h4, h5⟩ := h
  refine ⟨?_, ⟨B, row_sameL h2 (fun i hi => hk i ((h3 i).2 (.inr hi)))⟩, h3, h4, h5⟩
  unfold Blk at h1 ⊢
  rw [hk b ((h3 b).2 (.inl rfl))]; exact h1
theorem LkU.gr {row : Option Nat} (h : LkU T S w b u L) (hg : w.grownBy x row) (hr : ∀ k, row = some k → ¬ S k) : LkU T S x b u L := h.keep fun q hq => hg.block q (h.ofS q hq) (fun e => hr q e.symm hq)
theorem LkU.but (h : LkU T S w b u L) (hb : But D w x) (ha : ∀ q, D q → S q → False) : LkU T S x b u L := h.keep fun q hq => hb.block q (h.ofS q hq) (fun hd => ha q hd hq)
theorem LkU.below {n0 : Nat} (h : LkU T S w b u L) (hb : Below n0 w x) (hn : ∀ q, S q → q < n0) : LkU T S x b u L := h.keep fun q hq => hb.block q (hn q hq)
theorem LkU.sl (h : LkU T S w b u L) : SliceOf strE 1 w u L.q := by obtain ⟨h1, ⟨B, h2⟩, _⟩ := h; exact SliceOf.own h2 (fun _ _ => rfl)
theorem LkU.blk (h : LkU T S w b u L) : Blk w b T (lnC L u) := h.1
theorem LkU.ok (h : LkU T S w b u L) : LnOk L := h.2.2.2.2
theorem LkU.sb (h : LkU T S w b u L) : S b := (h.2.2.1 b).2 (.inl rfl)
theorem LkO.ofS (h : LkO T S w b L) : ∀ q, S q → q < w.heap.size := by obtain ⟨u, h⟩ := h; exact h.ofS
theorem LkO.keep (h : LkO T S w b L) (hk : ∀ q, S q → x.heap[q]? = w.heap[q]?) : LkO T S x b L := by obtain ⟨u, h⟩ := h; exact ⟨u, h.keep hk⟩
theorem LkO.gr {row : Option Nat} (h : LkO T S w b L) (hg : w.grownBy x row) (hr : ∀ k, row = some k → ¬ S k) : LkO T S x b L := by obtain ⟨u, h⟩ := h; exact ⟨u, h.gr hg hr⟩
theorem LkO.but (h : LkO T S w b L) (hb : But D w x) (ha : ∀ q, D q → S q → False) : LkO T S x b L := by obtain ⟨u, h⟩ := h; exact ⟨u, h.but hb ha⟩
theorem LkO.below {n0 : Nat} (h : LkO T S w b L) (hb : Below n0 w x) (hn : ∀ q, S q → q < n0) : LkO T S x b L := by obtain ⟨u, h⟩ := h; exact ⟨u, h.below hb hn⟩
theorem LkO.ok (h : LkO T S w b L) : LnOk L := by obtain ⟨u, h⟩ := h; exact h.ok
/-- Behind stores into b alone: another content, the same texts. -/
theorem LkU.re {L' : LnT} (h : LkU T S w b u L) (hx : Blk x b T (lnC L' u)) (hb : But (fun q => q = b) w x) (hq : L'.q = L.q) (hok : LnOk L') : LkU T S x b u L' ∧ Grew S S w x := by
  obtain ⟨h1, ⟨B, h2⟩, h3, h4, h5⟩ := h
  refine ⟨⟨hx, ⟨B, ?_⟩, h3, h4, hok⟩, fun q h => .inl h, hb.mono fun q _ e => (h3 q).2 (.inl e)⟩
  rw [hq]
  exact row_sameL h2 fun i hi => hb.block i (h2.lt i hi).2 (fun e => h4 (by rw [hi]; exact congrArg some e))
/-- Behind a new row of texts, laid since. -/
theorem LkU.row {L' : LnT} {u' : Value} {B : Nat} (h : LkU T S w b u L) (hx : Blk x b T (lnC L' u')) (hr : x.ownsRow B 9 1 u' L'.q.length (L'.q.flatMap strE)) (hB : ∀ i, u'.ownBlock = some i → u.ownBlock = some i ∨ w.heap.size ≤ i) (hb : But S w x) (hok : LnOk L') : LkU T (fun q => q = b ∨ u'.ownBlock = some q) x b u' L' ∧ Grew S (fun q => q = b ∨ u'.ownBlock = some q) w x := by
  obtain ⟨h1, ⟨B0, h2⟩, h3, h4, h5⟩ := h
  have hl := h1.lt
  refine ⟨⟨hx, ⟨B, hr⟩, fun q => Iff.rfl, fun e => ?_, hok⟩, fun q hq => ?_, hb⟩
  · rcases hB b e with k | k
    · exact h4 k
    · omega
  · rcases hq with rfl | hq
    · exact .inl ((h3 _).2 (.inl rfl))
    · rcases hB q hq with k | k
      · exact .inl ((h3 q).2 (.inr k))
      · exact .inr k
theorem LkU.row2 {L' : LnT} {u' : Value} {B : Nat} (h : LkU T S w b u L) (hx : Blk x b T (lnC L' u')) (hr : x.ownsRow B 9 1 u' L'.q.length (L'.q.flatMap strE)) (hI : InS S w.heap.size u') (hne : u'.ownBlock ≠ some b) (hb : But S w x) (hok : LnOk L') : ∃ S' : Nat → Prop, LkU T S' x b u' L' ∧ Grew S S' w x := by
  have hsb := h.sb
  refine ⟨fun q => q = b ∨ u'.ownBlock = some q, ⟨hx, ⟨B, hr⟩, fun q => Iff.rfl, hne, hok⟩, fun q hq => ?_, hb⟩
  rcases hq with rfl | hq
  · exact .inl hsb
  · exact hI q hq
theorem LkU.row3 {L' : LnT} {u' : Value} {B : Nat} (h : LkU T S w b u L) (hx : Blk x b T (lnC L' u')) (hr : x.ownsRow B 9 1 u' L'.q.length (L'.q.flatMap strE)) (hI : InS S w.heap.size u') (hne : u'.ownBlock ≠ some b) (hb : But S w x) (hok : LnOk L') : ∃ S' : Nat → Prop, LkU T S' x b u' L' ∧ Grew S S' w x ∧ ∀ i, w.heap.size ≤ i → u'.ownBlock ≠ some i → ¬ S' i := by
  have hsb := h.sb
  have hl := h.blk.lt
  refine ⟨fun q => q = b ∨ u'.ownBlock = some q, ⟨hx, ⟨B, hr⟩, fun q => Iff.rfl, hne, hok⟩, ⟨fun q hq => ?_, hb⟩, fun i hi hn hq => ?_⟩
  · rcases hq with rfl | hq
    · exact .inl hsb
    · exact hI q hq
  · rcases hq with rfl | hq
    · omega
    · exact hn hq
theorem LkU.same (h : LkU T S w b u L) (hb : Below w.heap.size w x) : LkU T S x b u L ∧ Grew S S w x := ⟨h.gr (below_grown hb) (fun q e => nomatch e), fun q h => .inl h, But.of_below hb⟩
theorem LkU.same' (h : LkU T S w b u L) (hb : But S w x) (hk : Blk x b T (lnC L u)) {B : Nat} (hr : x.ownsRow B 9 1 u L.q.length (L.q.flatMap strE)) : LkU T S x b u L ∧ Grew S S w x := ⟨⟨hk, ⟨B, hr⟩, h.2.2⟩, fun q h => .inl h, hb⟩
theorem LkO.new {boot : Int} (h : Blk w b T #[.int .i64 boot, .int .i64 1, .int .i64 0, .slice none 0 0, .int .i64 0, .int .i64 0, .int .i64 0, .int .i64 0, .bool false]) (hb : 1 ≤ boot ∧ boot ≤ 1073741824) : LkO T (fun q => q = b) w b (newLn boot) :=
  ⟨_, h, ⟨0, World.ownsRow_nil _ _ _ _⟩, fun q => by simp [Value.ownBlock], by simp [Value.ownBlock], newLn_ok hb⟩
end
theorem blk_setL {w : World} {N : Nat} {T : TypeId} {cs : Array Value} (h : Blk w N T cs) (i : Nat) (hi : i < cs.size) (v : Value) : Blk (w.setCell ⟨N, i, none⟩ v) N T (cs.set i v) := by
  have hl := h.lt
  unfold Blk at h ⊢
  unfold World.setCell
  simp [Array.getElem?_modify, h, Array.setIfInBounds, hi]
theorem But.setL {S : Nat → Prop} {w x : World} {b i : Nat} (h : But S w x) (hb : S b) (v : Value) : But S w (x.setCell ⟨b, i, none⟩ v) := h.setCell (p := ⟨b, i, none⟩) (fun _ => hb) v
end Go.Proofs.Ythmljllgfigebaa
