/- Put together: ConfS, ConfTa, PexE, ConfW. Conditions: as each says. -/
import Derived.Test.YteioaaegooebpaaGreatNp8
import Derived.Test.YteioaaegooebpaaGreatWireTNp
import Derived.Test.YteioaaegooebpaaGreatVnD
import Derived.Test.YteioaaegooebpaaGreatObjBNp
import Derived.Test.YteioaaegooebpaaGreatConfFNp
import Derived.Test.YteioaaegooebpaaGreatOpsCNp
/- Configurations: what is read; without the program. Conditions: none. -/
namespace Go.Proofs.YteioaaegooebpaaGreat
open Go.RowKit Go.PlainAid

def ofRows (s : ByteArray) : Nat → Int → Int → List MemT → List MemT × Int × Int
  | 0, a, x, acc => (acc, a, x)
  | k + 1, a, x, acc => ofRows s k (numR s (numR s a x 3).2.1 (numR s a x 3).2.2 1073741824).2.1 (numR s (numR s a x 3).2.1 (numR s a x 3).2.2 1073741824).2.2 (acc ++ [((numR s a x 3).1, (numR s (numR s a x 3).2.1 (numR s a x 3).2.2 1073741824).1)])
/-- All that is read: epoch, members, floor, the place, the error. -/
def ofAll (s : ByteArray) : Int × List MemT × Int × Int × Int :=
  let r0 := numR s 0 0 1073741824
  let r1 := numR s r0.2.1 r0.2.2 4
  let r2 := ofRows s r1.1.toNat r1.2.1 r1.2.2 []
  let r3 := bigR s r2.2.1 r2.2.2
  (r0.1, r2.1, r3.1, r3.2.1, r3.2.2)
def ofErr (s : ByteArray) : Int := if endV s (ofAll s).2.2.2.1.toNat (ofAll s).2.2.2.2 ≠ 0 then endV s (ofAll s).2.2.2.1.toNat (ofAll s).2.2.2.2 else chkC (ofAll s).1 (ofAll s).2.1
theorem numR_bd (s : ByteArray) (a x m : Int) (hm : 0 ≤ m) : 0 ≤ (numR s a x m).1 ∧ (numR s a x m).1 ≤ m := by
  unfold numR
  split
  · simp only; omega
  · simp only
    split
    · rename_i h
      have hr := getR_range s a
      unfold upR at h ⊢
      split at h
      · rename_i h1; exact absurd h h1
      · rename_i h1
        rw [if_neg h1]
        split at h
        · simp at h
        · rename_i h2; rw [if_neg h2]; simp only; omega
    · omega
theorem bigR_bd (s : ByteArray) (a x : Int) : 0 ≤ (bigR s a x).1 ∧ (bigR s a x).1 < 18446744073709551616 := by
  unfold bigR
  split
  · simp
  · simp only
    split
    · rename_i h
      by_cases ha : a < 0
      · have : getR s a = (0, 0, 2) ∨ ((getR s a).2.2 ≠ 0) := Or.inr (by unfold getR; rw [if_pos (by omega)]; simp)
        rcases this with h1 | h1
        · rw [h1] at h; simp at h
        · exact absurd h h1
      · obtain ⟨k, rfl⟩ := Int.eq_ofNat_of_zero_le (show 0 ≤ a by omega)
        have := getR_go s k h
        exact ⟨this.2.2.1, this.2.2.2⟩
    · simp
theorem ofRows_ok (s : ByteArray) : ∀ (k : Nat) (a x : Int) (acc : List MemT), (∀ m ∈ acc, memOk m) → ∀ m ∈ (ofRows s k a x acc).1, memOk m
  | 0, _, _, _, h => h
  | k + 1, a, x, acc, h => by
    unfold ofRows
    refine ofRows_ok s k _ _ _ (fun m hm => ?_)
    rcases List.mem_append.1 hm with hm | hm
    · exact h m hm
    · have h1 := numR_bd s a x 3 (by omega)
      have h2 := numR_bd s (numR s a x 3).2.1 (numR s a x 3).2.2 1073741824 (by omega)
      simp only [List.mem_singleton] at hm
      subst hm
      exact ⟨⟨by simp only; omega, by simp only; omega⟩, by simp only; omega, by simp only; omega⟩

end Go.Proofs.YteioaaegooebpaaGreat

/- Package conf: bytes that are put, what the check tells. Conditions: none. -/
namespace Go.Proofs.YteioaaegooebpaaGreat
open Go.RowKit Go.PlainAid

def putM (l : List MemT) : List UInt8 := l.flatMap fun m => putL m.1 ++ putL m.2
theorem putM_snoc (l : List MemT) (m : MemT) : putM (l ++ [m]) = putM l ++ putL m.1 ++ putL m.2 := by simp [putM]
theorem putM_len (l : List MemT) : (putM l).length ≤ 18 * l.length := by
  induction l with
  | nil => simp [putM]
  | cons m r ih =>
    have h1 := putL_le m.1; have h2 := putL_le m.2
    have e : putM (m :: r) = putL m.1 ++ putL m.2 ++ putM r := by simp [putM]
    rw [e]; simp only [List.length_append, List.length_cons]; omega
def putC (ep : Int) (ms : List MemT) (fl : Int) : List UInt8 := putL ep ++ putL (ms.length : Int) ++ putM ms ++ putL fl
/-- What a configuration that may be is like. -/
theorem chkM_ok : ∀ (pre r : List MemT), chkM pre r = 0 → ∀ m ∈ r, (0 ≤ m.1 ∧ m.1 < 4) ∧ (1 ≤ m.2 ∧ m.2 ≤ 1073741824)
  | _, [], _ => by simp
  | pre, m :: r, h => by
    unfold chkM at h
    split at h
    · omega
    rename_i h1
    split at h
    · omega
    rename_i h2
    split at h
    · omega
    intro o ho
    rcases List.mem_cons.1 ho with rfl | ho
    · unfold badId at h1; unfold badSer at h2; exact ⟨by omega, by omega⟩
    · exact chkM_ok _ r h o ho
theorem chkC_ok {ep : Int} {ms : List MemT} (h : chkC ep ms = 0) : (1 ≤ ep ∧ ep ≤ 1073741824) ∧ (0 < ms.length ∧ ms.length ≤ 4) ∧ chkM [] ms = 0 ∧ ∀ m ∈ ms, (0 ≤ m.1 ∧ m.1 < 4) ∧ (1 ≤ m.2 ∧ m.2 ≤ 1073741824) := by
  unfold chkC at h
  split at h
  · omega
  split at h
  · omega
  split at h
  · omega
  exact ⟨by omega, by omega, h, chkM_ok _ _ h⟩
end Go.Proofs.YteioaaegooebpaaGreat

/- Stores into a part of a block; walks that may turn some blocks that were there (S). Conditions: none. -/
namespace Go.Proofs.YteioaaegooebpaaGreat
open Go.RowKit
set_option linter.unusedVariables false

section
variable {P : Program} {n : Nat} {m : List (Nat × Value)} {w x w0 : World} {o : Oper} {N : Nat} {T : TypeId} {cs : Array Value} {S : Nat → Prop}
theorem op_storePart {t : TypeId} {p q : Operand} {cells cs' : Array Value} {k : Nat} (ho : o.op = .store t p q) (hp : ev m p = some (.pointer (some ⟨N, k, none⟩))) (hq : ev m q = some (.agg cells)) (h1 : cells.all (·.oneCell') = true) (hi : (P.info? t).map (·.size) = some cells.size)
    (hb : Blk w N T cs) (hk : Nat.ble (k + cells.size) cs.size = true) (he : (cs.toList.take k ++ cells.toList ++ cs.toList.drop (k + cells.size)).toArray = cs') : Op1 P n m o w (fun _ x => Blk x N T cs' ∧ x.heap.size = w.heap.size ∧ w.grownBy x (some N)) := by
  intro a ha K Q hN
  have hk' : k + cells.size ≤ cs.size := by simpa using hk
  have hthere : w.there N k cells.size := fun j hj => ⟨by rw [hb.cell (k := k + j) (v := cs[k + j]'(by omega)) (by rw [Array.getElem?_eq_getElem])]; rfl, hb.frozen _⟩
  refine wp_store_mid t p q ho N k cells (ha.ev hp) (ha.ev hq) hthere hi h1 (hN _ _ ⟨?_, ?_, ?_⟩)
  · have := setCells_blk cells.toList w cs k hb (by simpa using hk')
    simp only [Array.length_toList] at this
    rw [he] at this; exact this
  · have hsz : ∀ (vs : List Value) (k : Nat) (w : World), (w.setCells N k vs).heap.size = w.heap.size := by
      intro vs
      induction vs with
      | nil => intro k w; rfl
      | cons v r ih => intro k w; rw [World.setCells, ih]; simp [World.setCell]
    exact hsz _ _ _
  · have hg : ∀ (vs : List Value) (k : Nat) (w : World), w.grownBy (w.setCells N k vs) (some N) := by
      intro vs
      induction vs with
      | nil => intro k w; exact World.grownBy.refl _ _
      | cons v r ih => intro k w; rw [World.setCells]; exact (grown_setCell w N k v).trans (ih _ _)
    exact hg _ _ _
theorem box_run {t : TypeId} {q : Operand} {v : Value} (ho : o.op = .box t q) (hq : ev m q = some v) (h1 : v.oneCell' = true) : (execOp (lk m) o).run P w = .ok (.value (.pointer (some ⟨w.heap.size, 0, none⟩))) (w.alloc (.cells #[v] t)) := by
  unfold execOp
  simp only [ho, lk_ev hq]
  cases v <;> first | rfl | simp_all [Value.oneCell']
theorem fb_new (h : But S w0 w) (hg : w.grownBy x none) : But S w0 x := h.trans (But.of_below (grown_below hg))
theorem fb_call (h : But S w0 w) (hb : Below w.heap.size w x) : But S w0 x := h.trans (But.of_below hb)
theorem fb_at (h : But S w0 w) (hg : w.grownBy x (some N)) (hN : N < w0.heap.size → S N) : But S w0 x :=
  h.trans' (S' := fun k => some N = some k) (grown_but hg) (fun i hi e => by cases e; exact hN hi)
theorem fb_row {B sz k : Nat} {e : TypeId} {v : Value} {xs : List Value} (h : But S w0 w) (hr : w.ownsRow B e sz v k xs) (hB : w0.heap.size ≤ B) (hg : w.grownBy x v.ownBlock) : But S w0 x :=
  h.trans' (S' := fun k => v.ownBlock = some k) (grown_but hg) (fun i hi e => by have := (hr.lt i e).1; omega)
theorem fb_wr {b mm : Nat} {l : List UInt8} (h : But S w0 w) (ho : OW b l mm w) (hlt : w0.heap.size ≤ b) (hb : But (Rw w b) w x) : But S w0 x :=
  h.trans' hb (fun k hi hk => by rcases ho.wr.only hk with h1 | h1 <;> omega)
theorem fb_foot {S' : Nat → Prop} (h : But S w0 w) (hb : But S' w x) (hs : ∀ i, i < w0.heap.size → S' i → S i) : But S w0 x := h.trans' hb hs
theorem hb_foot {S' : Nat → Prop} (h : Below w0.heap.size w0 w) (hb : But S' w x) (hs : ∀ i, i < w.heap.size → S' i → w0.heap.size ≤ i) : Below w0.heap.size w0 x := below_but h hb h.size hs
theorem Blk.but (h : Blk w N T cs) (hb : But S w x) (hn : ¬ S N) : Blk x N T cs := by
  have hl := h.lt
  unfold Blk at h ⊢
  rw [hb.block N hl hn]; exact h
theorem own_but {B sz k : Nat} {e : TypeId} {v : Value} {xs : List Value} (h : w.ownsRow B e sz v k xs) (hb : But S w x) (hn : ∀ i, v.ownBlock = some i → ¬ S i) : x.ownsRow B e sz v k xs := by
  obtain ⟨h1, h2⟩ := h
  refine ⟨h1, ?_⟩
  rcases h2 with h2 | ⟨g, cap, cur, hv, hg, hh, r⟩
  · exact Or.inl h2
  · exact Or.inr ⟨g, cap, cur, hv, hg, by rw [hb.block g (Array.getElem?_eq_some_iff.1 hh).1 (hn g (by rw [hv]; rfl))]; exact hh, r⟩
theorem own_ge {B sz k : Nat} {e : TypeId} {v : Value} {xs : List Value} (h : w.ownsRow B e sz v k xs) {i : Nat} (hi : v.ownBlock = some i) : B ≤ i ∧ i < w.heap.size := h.lt i hi
/-- A block of one type is no row of another. -/
theorem own_ne_blk {B sz k : Nat} {e : TypeId} {v : Value} {xs : List Value} (h : w.ownsRow B e sz v k xs) (hb : Blk w N T cs) (hT : e ≠ T) : v.ownBlock ≠ some N := fun e1 => by
  rcases h.2 with ⟨hv, _⟩ | ⟨g, cap, cur, hv, _, hh, _⟩
  · rw [hv] at e1; cases e1
  · rw [hv] at e1
    have : g = N := by simpa [Value.ownBlock] using e1
    subst this
    unfold Blk at hb
    rw [hh] at hb
    injection hb with h1; injection h1 with h2 h3
    exact hT h3
theorem OR.but {b : Nat} {s : ByteArray} {a e : Int} (h : OR b s a e w) (hb : But S w x) (hn : ¬ S b) : OR b s a e x := ⟨h.re.but hb hn, h.pos⟩
theorem OXR.but {b : Nat} {s : ByteArray} {a e : Int} (h : OXR b s a e w) (hb : But S w x) (hn : ¬ S b) : OXR b s a e x := ⟨h.re.but hb hn, h.pos⟩
theorem OX.but {b : Nat} {l : List UInt8} {mm : Nat} (h : OX b l mm w) (hb : But S w x) (hn : ¬ S b) : OX b l mm x := ⟨h.wr.but hb hn, h.len⟩
end
end Go.Proofs.YteioaaegooebpaaGreat

/- Package conf: the contracts once more, for packages over it; Put, Of. Conditions: none. -/
namespace Go.Proofs.YteioaaegooebpaaGreat
open Go.RowKit Go.PlainAid
set_option linter.unusedVariables false


theorem memE_len (y : MemT) : (memE y).length = 2 := rfl
theorem memE_one (y : MemT) : ∀ u ∈ memE y, u.oneCell' = true := by intro u hu; simp [memE] at hu; rcases hu with rfl | rfl <;> rfl
def sameCf (ep : Int) (ms : List MemT) (fl ep2 : Int) (ms2 : List MemT) (fl2 : Int) : Bool := decide (ep = ep2 ∧ fl = fl2 ∧ ms = ms2)
theorem sameCf_refl (ep : Int) (ms : List MemT) (fl : Int) : sameCf ep ms fl ep ms fl = true := by unfold sameCf; simp
def putCf (ep : Int) (ms : List MemT) (fl : Int) : ByteArray := if chkC ep ms = 0 then ⟨(putC ep ms fl).toArray⟩ else ⟨#[]⟩
theorem putCf_ok {ep fl : Int} {ms : List MemT} (h : chkC ep ms = 0) : putCf ep ms fl = ⟨(putC ep ms fl).toArray⟩ := by unfold putCf; rw [if_pos h]
theorem putCf_err {ep fl : Int} {ms : List MemT} (h : chkC ep ms ≠ 0) : putCf ep ms fl = ⟨#[]⟩ := by unfold putCf; rw [if_neg h]
theorem putCf_small {ep fl : Int} {ms : List MemT} : (putCf ep ms fl).size ≤ 200 := by
  by_cases h : chkC ep ms = 0
  · rw [putCf_ok h]
    show (putC ep ms fl).length ≤ _
    have h1 := putL_le ep; have h2 := putL_le (ms.length : Int); have h3 := putM_len ms; have h4 := putL_le fl; have h5 := (chkC_ok h).2.1
    unfold putC; simp only [List.length_append]; omega
  · rw [putCf_err h]; decide
theorem takeM_at {α : Type} {l : List α} {i : Nat} {y : α} (h : l[i]? = some y) : l.take (i + 1) = l.take i ++ [y] := by
  rw [List.take_add_one, h]; rfl
def ofC (s : ByteArray) : (Int × List MemT × Int) × Int := if ofErr s = 0 then (((ofAll s).1, (ofAll s).2.1, (ofAll s).2.2.1), 0) else ((0, [], 0), ofErr s)
def ofEndC (ep : Int) (ms : List MemT) (fl x : Int) : (Int × List MemT × Int) × Int := if x ≠ 0 then ((0, [], 0), x) else if chkC ep ms ≠ 0 then ((0, [], 0), chkC ep ms) else ((ep, ms, fl), 0)
theorem ofC_at {s : ByteArray} {ep n fl x a1 e1 a2 e2 a3 e3 a4 e4 : Int} {ms : List MemT} (h1 : numR s 0 0 1073741824 = (ep, a1, e1)) (h2 : numR s a1 e1 4 = (n, a2, e2)) (h3 : ofRows s n.toNat a2 e2 [] = (ms, a3, e3)) (h4 : bigR s a3 e3 = (fl, a4, e4)) (h5 : endV s a4.toNat e4 = x) : ofC s = ofEndC ep ms fl x := by
  have hA : ofAll s = (ep, ms, fl, a4, e4) := by unfold ofAll; simp only [h1, h2, h3, h4]
  unfold ofC ofErr ofEndC
  rw [hA]; simp only [h5]
  by_cases hx : x ≠ 0
  · rw [if_pos hx, if_pos hx]; rw [if_neg hx]
  · rw [if_neg hx, if_neg hx]
    by_cases hc : chkC ep ms ≠ 0
    · rw [if_pos hc, if_neg hc]
    · rw [if_neg hc, if_pos (by omega)]
theorem ofEndC_a {ep fl x : Int} {ms : List MemT} (h : x ≠ 0) : ofEndC ep ms fl x = ((0, [], 0), x) := by unfold ofEndC; rw [if_pos h]
theorem ofEndC_b {ep fl x : Int} {ms : List MemT} (h : ¬ x ≠ 0) (h1 : chkC ep ms ≠ 0) : ofEndC ep ms fl x = ((0, [], 0), chkC ep ms) := by unfold ofEndC; rw [if_neg h, if_pos h1]
theorem ofEndC_c {ep fl x : Int} {ms : List MemT} (h : ¬ x ≠ 0) (h1 : ¬ chkC ep ms ≠ 0) : ofEndC ep ms fl x = ((ep, ms, fl), 0) := by unfold ofEndC; rw [if_neg h, if_neg h1]
theorem ofRows_step {s : ByteArray} {k i : Nat} {a x m1 a1 e1 m2 a2 e2 : Int} {acc : List MemT} {Z : List MemT × Int × Int} (h : ofRows s (k - i) a x acc = Z) (hi : i < k) (h1 : numR s a x 3 = (m1, a1, e1)) (h2 : numR s a1 e1 1073741824 = (m2, a2, e2)) : ofRows s (k - (i + 1)) a2 e2 (acc ++ [(m1, m2)]) = Z := by
  rw [show k - i = (k - (i + 1)) + 1 by omega] at h
  unfold ofRows at h
  simp only [h1, h2] at h; exact h
theorem ofRows_all {s : ByteArray} {k i : Nat} {a x : Int} {acc : List MemT} {Z : List MemT × Int × Int} (h : ofRows s (k - i) a x acc = Z) (hi : i = k) : Z = (acc, a, x) := by
  subst hi; rw [Nat.sub_self] at h; exact h.symm
theorem rows_ok {s : ByteArray} {k : Nat} {a x a1 x1 : Int} {ms : List MemT} (h : ofRows s k a x [] = (ms, a1, x1)) : ∀ m ∈ ms, memOk m := by
  have := ofRows_ok s k a x [] (by simp); rw [h] at this; exact this
theorem wcheck_any (ep : Int) (mv : Value) (ms : List MemT) (fl : Int) (w : World) (hs : SliceOf memE 2 w mv ms) (hmk : ∀ m ∈ ms, memOk m) (he : -9223372036854775808 ≤ ep ∧ ep ≤ 9223372036854775807) (hf : 0 ≤ fl ∧ fl < 18446744073709551616) :
    Calls Tryz.prog 74 #[.agg #[.int .i64 ep, mv, .int .u64 fl]] w fun e w' => e = .returned (.int .i64 (chkC ep ms)) ∧ Below w.heap.size w w' := check_any ⟨ep, mv, ms, fl⟩ w ⟨hs, hmk, he.1, he.2, hf.1, hf.2⟩
theorem wrcheck_any (ep : Int) (mv : Value) (ms : List MemT) (fl : Int) (w : World) (hs : SliceOf memE 2 w mv ms) (hmk : ∀ m ∈ ms, memOk m) (he : -9223372036854775808 ≤ ep ∧ ep ≤ 9223372036854775807) (hf : 0 ≤ fl ∧ fl < 18446744073709551616) :
    Calls Tryz.prog 79 #[.agg #[.int .i64 ep, mv, .int .u64 fl]] w fun e w' => e = .returned (.int .i64 (chkC ep ms)) ∧ Below w.heap.size w w' := rcheck_any ⟨ep, mv, ms, fl⟩ w ⟨hs, hmk, he.1, he.2, hf.1, hf.2⟩
theorem wsame_any (ep : Int) (mv : Value) (ms : List MemT) (fl : Int) (ep2 : Int) (mv2 : Value) (ms2 : List MemT) (fl2 : Int) (w : World) (hs : SliceOf memE 2 w mv ms) (hmk : ∀ m ∈ ms, memOk m) (he : -9223372036854775808 ≤ ep ∧ ep ≤ 9223372036854775807) (hf : 0 ≤ fl ∧ fl < 18446744073709551616) (hs2 : SliceOf memE 2 w mv2 ms2) (hmk2 : ∀ m ∈ ms2, memOk m) (he2 : -9223372036854775808 ≤ ep2 ∧ ep2 ≤ 9223372036854775807) (hf2 : 0 ≤ fl2 ∧ fl2 < 18446744073709551616) :
    Calls Tryz.prog 88 #[.agg #[.int .i64 ep, mv, .int .u64 fl], .agg #[.int .i64 ep2, mv2, .int .u64 fl2]] w fun e w' => e = .returned (.bool (sameCf ep ms fl ep2 ms2 fl2)) ∧ Below w.heap.size w w' := same_any ⟨ep, mv, ms, fl⟩ ⟨ep2, mv2, ms2, fl2⟩ w ⟨hs, hmk, he.1, he.2, hf.1, hf.2⟩ ⟨hs2, hmk2, he2.1, he2.2, hf2.1, hf2.2⟩
theorem wrsame_any (ep : Int) (mv : Value) (ms : List MemT) (fl : Int) (ep2 : Int) (mv2 : Value) (ms2 : List MemT) (fl2 : Int) (w : World) (hs : SliceOf memE 2 w mv ms) (hmk : ∀ m ∈ ms, memOk m) (he : -9223372036854775808 ≤ ep ∧ ep ≤ 9223372036854775807) (hf : 0 ≤ fl ∧ fl < 18446744073709551616) (hs2 : SliceOf memE 2 w mv2 ms2) (hmk2 : ∀ m ∈ ms2, memOk m) (he2 : -9223372036854775808 ≤ ep2 ∧ ep2 ≤ 9223372036854775807) (hf2 : 0 ≤ fl2 ∧ fl2 < 18446744073709551616) :
    Calls Tryz.prog 41 #[.agg #[.int .i64 ep, mv, .int .u64 fl], .agg #[.int .i64 ep2, mv2, .int .u64 fl2]] w fun e w' => e = .returned (.bool (sameCf ep ms fl ep2 ms2 fl2)) ∧ Below w.heap.size w w' := rsame_any ⟨ep, mv, ms, fl⟩ ⟨ep2, mv2, ms2, fl2⟩ w ⟨hs, hmk, he.1, he.2, hf.1, hf.2⟩ ⟨hs2, hmk2, he2.1, he2.2, hf2.1, hf2.2⟩

set_option maxRecDepth 100000 in
theorem cOf_any (s : ByteArray) (ep : Int) (ms : List MemT) (fl : Int) (x : Int) (w : World) (hsz : s.size ≤ 9223372036854775807) (hof : ofC s = ((ep, ms, fl), x)) :
    Calls Tryz.prog 123 #[.string s] w fun e w' => ∃ (u : Value), e = .returned (.tuple #[.agg #[.int .i64 ep, u, .int .u64 fl], .int .i64 x]) ∧ w'.ownsRow w.heap.size 154 2 u ms.length (ms.flatMap memE) ∧ Below w.heap.size w w' := by
 have hB0 := Below.refl w.heap.size w
 refine co_enter (n := 44) Tryz.func123 rfl rfl rfl [(0, .string s)] rfl (fun a h0 => ?_)
 refine co_seq ?_
 refine co_reg ?_
 refine pw h0 rfl (op_new (v := fun N => pt N 0) (T := 26) (cs := #[.int .i64 0, .slice none 0 0, .int .u64 0]) (by kernel_rfl) (by kernel_rfl) (by kernel_rfl)) ?_; clear h0
 rintro _ w2 a1 ⟨N3, rfl, hN6, hz7, hk5, hg4⟩ h1
 have hz8 := hg4.size
 try dsimp only at h1
 refine pk0 (v := .int .i64 0) h1 rfl fun a9 h9 => ?_; clear h1
 refine pl_nil ?_
 refine co_then ?_
 refine co_seq ?_
 refine co_reg ?_
 refine pk0 (v := .string s) h9 rfl fun a10 h10 => ?_; clear h9
 refine pw h10 rfl (op_call (args := #[.string s]) (R := fun res xw => ∃ b : Nat, res = pt b 0 ∧ b = w2.heap.size ∧ OR b s 0 0 xw ∧ Below w2.heap.size w2 xw) rfl rfl rfl (by kernel_rfl) (by kernel_rfl) (Tryz.call57 _ _) (or_open s w2) (by rintro e x ⟨b, rfl, h0, h1, h2⟩; exact ⟨_, rfl, b, rfl, h0, h1, h2⟩)) ?_; clear h10
 rintro _ w12 a11 ⟨b13, rfl, hN14, ho15, hb16⟩ h11
 have hz17 := hb16.size
 have hl18 := ho15.lt
 refine pk0 (v := pt b13 0) h11 rfl fun a19 h19 => ?_; clear h11
 refine pl_nil ?_
 refine co_then ?_
 refine co_seq ?_
 refine co_reg ?_
 refine pk0 (v := pt b13 0) h19 rfl fun a20 h20 => ?_; clear h19
 refine pw h20 rfl (op_call (args := #[pt b13 0, .int .i64 1073741824]) (R := fun res xw => ∃ (n : Int) (a' e' : Int), res = .int .i64 n ∧ numR s 0 0 1073741824 = (n, a', e') ∧ 0 ≤ n ∧ n ≤ 1073741824 ∧ OR b13 s a' e' xw ∧ w12.grownBy xw (some b13)) rfl rfl rfl (by kernel_rfl) (by kernel_rfl) (Tryz.call58 _ _) (or_num b13 s 0 0 1073741824 w12 ho15 (by omega) (by omega) (by omega)) (by rintro q x ⟨n, a', e', rfl, h0, k0, k1, h1, h2⟩; exact ⟨_, rfl, n, a', e', rfl, h0, k0, k1, h1, h2⟩)) ?_; clear h20
 rintro _ w22 a21 ⟨n23, a24, e25, rfl, hq26, hn27, hm28, ho29, hg30⟩ h21
 have hz31 := hg30.size
 have hl32 := ho29.lt
 refine pk0 (v := .agg #[.int .i64 n23, .slice none 0 0, .int .u64 0]) h21 rfl fun a33 h33 => ?_; clear h21
 refine pw h33 rfl (op_new (v := fun N => pt N 0) (T := 26) (cs := #[.int .i64 0, .slice none 0 0, .int .u64 0]) (by kernel_rfl) (by kernel_rfl) (by kernel_rfl)) ?_; clear h33
 rintro _ w35 a34 ⟨N36, rfl, hN39, hz40, hk38, hg37⟩ h34
 have hz41 := hg37.size
 try dsimp only at h34
 refine pwD h34 rfl (op_storeN rfl rfl rfl (all_cons rfl (all_cons rfl (all_cons rfl all_nil))) (by kernel_rfl) hk38 rfl) ?_; clear h34
 rintro _ w43 a42 ⟨hk44, hz45, hg46⟩ h42
 have hk44' : Blk w43 N36 26 #[.int .i64 n23, .slice none 0 0, .int .u64 0] := hk44; clear hk44
 have hz47 := hg46.size
 refine pl_nil ?_
 refine co_then ?_
 refine co_seq ?_
 refine co_seq ?_
 refine co_reg ?_
 refine pk0 (v := pt b13 0) h42 rfl fun a48 h48 => ?_; clear h42
 have ho59 := ho29.new hg37
 have ho60 := ho59.at (by omega) hg46
 refine pw h48 rfl (op_call (args := #[pt b13 0, .int .i64 4]) (R := fun res xw => ∃ (n : Int) (a' e' : Int), res = .int .i64 n ∧ numR s a24 e25 4 = (n, a', e') ∧ 0 ≤ n ∧ n ≤ 4 ∧ OR b13 s a' e' xw ∧ w43.grownBy xw (some b13)) rfl rfl rfl (by kernel_rfl) (by kernel_rfl) (Tryz.call58 _ _) (or_num b13 s a24 e25 4 w43 ho60 (by omega) (by omega) (by omega)) (by rintro q x ⟨n, a', e', rfl, h0, k0, k1, h1, h2⟩; exact ⟨_, rfl, n, a', e', rfl, h0, k0, k1, h1, h2⟩)) ?_; clear h48
 rintro _ w50 a49 ⟨n51, a52, e53, rfl, hq54, hn55, hm56, ho57, hg58⟩ h49
 have hz61 := hg58.size
 have hl62 := ho57.lt
 refine pk0 (v := .int .i64 0) h49 rfl fun a63 h63 => ?_; clear h49
 refine pl_nil ?_
 refine co_then ?_
 refine wp_block ?_
 have h64 : Slots 44 [(2, pt N3 0), (4, pt b13 0), (5, pt N36 0), (14, .int .i64 n51), (15, .int .i64 0)] _ := h63.sub ⟨rfl, rfl, rfl, rfl, rfl, trivial⟩; clear h63
 refine co_loop (fun mm a x => ∃ (i : Nat) (u : Value) (ls : List MemT) (ps : Int) (er : Int), Slots 44 [(2, pt N3 0), (4, pt b13 0), (5, pt N36 0), (14, .int .i64 n51), (15, .int .i64 ((i : Nat) : Int))] a ∧ mm = n51.toNat - i ∧ (((i : Nat) : Int) ≤ n51) ∧ (ls.length = i) ∧ (ofRows s (n51.toNat - i) ps er ls = ofRows s n51.toNat a52 e53 []) ∧ Blk x N36 26 #[.int .i64 n23, u, .int .u64 0] ∧ OR b13 s ps er x ∧ x.ownsRow (N36 + 1) 154 2 u ls.length (ls.flatMap memE) ∧ Below w.heap.size w x ∧ Blk x N3 26 #[.int .i64 0, .slice none 0 0, .int .u64 0]) (n51.toNat - 0) ?_ ?_
 have hk65 := hk44'.kept hg58 (by simp; omega)
 have hB66 := hb_new hB0 hg4
 have hB67 := hb_call hB66 hb16
 have hB68 := hb_at hB67 hg30 (by omega)
 have hB69 := hb_new hB68 hg37
 have hB70 := hb_at hB69 hg46 (by omega)
 have hB71 := hb_at hB70 hg58 (by omega)
 have hk72 := hk5.below hb16
 have hk73 := hk72.kept hg30 (by simp; omega)
 have hk74 := hk73.kept hg37 (by simp)
 have hk75 := hk74.kept hg46 (by simp; omega)
 have hk76 := hk75.kept hg58 (by simp; omega)
 · exact ⟨0, (.slice none 0 0), [], a52, e53, h64.sub ⟨rfl, rfl, rfl, rfl, (slot_eq rfl (congrArg (Value.int .i64) (by first | rfl | omega))), trivial⟩, rfl, by omega, by first | rfl | (simp; omega), by first | rfl | exact hR', hk65, ho57, (row_nilL _ _ _ _ _), hB71, hk76⟩
 · rintro k77 a78 w79 ⟨i, u, ls, ps, er, h78, rfl, hi80, hi81, hi82, hf83, hf84, hf85, hB86, hk87⟩
   have hz88 := hB86.size
   have hl89 := hk87.lt
   have hl90 := hf83.lt
   have hl91 := hf84.lt
   have hR : ofRows s (n51.toNat - i) ps er ls = ofRows s n51.toNat a52 e53 [] := by assumption
   refine co_seq ?_
   refine co_reg ?_
   refine pk0 (v := .bool (decide (((i : Nat) : Int) < n51))) h78 rfl fun a92 h92 => ?_; clear h78
   refine pl_nil ?_
   refine co_then ?_
   refine co_seq ?_
   cases hc93 : (decide (((i : Nat) : Int) < n51))
   ·
    rw [hc93] at h92
    have hp94 : ¬ (((i : Nat) : Int) < n51) := of_decide_eq_false hc93
    clear hc93
    refine co_false h92 rfl ?_
    refine wp_exit ?_
    refine co_thenX ?_
    refine co_thenX ?_
    refine co_blockX ?_
    refine co_then ?_
    refine co_seq ?_
    refine co_reg ?_
    refine pk0 (v := pt b13 0) h92 rfl fun a95 h95 => ?_; clear h92
    refine pw h95 rfl (op_call (args := #[pt b13 0]) (R := fun res xw => ∃ (n : Int) (a' e' : Int), res = .int .u64 n ∧ bigR s ps er = (n, a', e') ∧ 0 ≤ n ∧ n < 18446744073709551616 ∧ OR b13 s a' e' xw ∧ w79.grownBy xw (some b13)) rfl rfl rfl (by kernel_rfl) (by kernel_rfl) (Tryz.call120 _ _) (or_big b13 s ps er w79 hf84 (by omega)) (by rintro q x ⟨n, a', e', rfl, h0, k0, k1, h1, h2⟩; exact ⟨_, rfl, n, a', e', rfl, h0, k0, k1, h1, h2⟩)) ?_; clear h95
    rintro _ w97 a96 ⟨n98, a99, e100, rfl, hq101, hn102, hm103, ho104, hg105⟩ h96
    have hz106 := hg105.size
    have hl107 := ho104.lt
    refine pk0 (v := pt N36 2) h96 rfl fun a108 h108 => ?_; clear h96
    have hk114 := hf83.kept hg105 (by simp; omega)
    refine pwD h108 rfl (op_store1 rfl rfl rfl rfl Tryz.sizeOf22 hk114 rfl) ?_; clear h108
    rintro _ w110 a109 ⟨hk111, hz112, hg113⟩ h109
    have hk111' : Blk w110 N36 26 #[.int .i64 n23, u, .int .u64 n98] := hk111; clear hk111
    have hz115 := hg113.size
    refine pl_nil ?_
    refine co_then ?_
    refine co_seq ?_
    refine co_seq ?_
    refine co_reg ?_
    refine pk0 (v := pt b13 0) h109 rfl fun a116 h116 => ?_; clear h109
    have ho122 := ho104.at (by omega) hg113
    refine pw h116 rfl (op_call (args := #[pt b13 0]) (R := fun res xw => ∃ r : Int, res = .int .i64 r ∧ endV s a99.toNat e100 = r ∧ Below w110.heap.size w110 xw) rfl rfl rfl (by kernel_rfl) (by kernel_rfl) (Tryz.call61 _ _) (or_end b13 s a99 e100 w110 ho122 (by omega)) (by rintro e x ⟨r, rfl, h0, h2⟩; exact ⟨_, rfl, r, rfl, h0, h2⟩)) ?_; clear h116
    rintro _ w118 a117 ⟨r119, rfl, hq120, hb121⟩ h117
    have hz123 := hb121.size
    refine pk0 (v := .int .i64 r119) h117 rfl fun a124 h124 => ?_; clear h117
    refine pl_nil ?_
    refine co_then ?_
    refine co_seq ?_
    refine co_reg ?_
    refine pk0 (v := .int .i64 r119) h124 rfl fun a125 h125 => ?_; clear h124
    refine pk0 (v := .bool (r119 != 0)) h125 rfl fun a126 h126 => ?_; clear h125
    refine pl_nil ?_
    refine co_then ?_
    have hB128 := hb_at hB86 hg105 (by omega)
    have hB129 := hb_at hB128 hg113 (by omega)
    have hB130 := hb_call hB129 hb121
    have hk131 := hk87.kept hg105 (by simp; omega)
    have hk132 := hk131.kept hg113 (by simp; omega)
    have hk133 := hk132.below hb121
    have hr134 := row_kept_at hf85 hg105 (row_ne_lt hf85 (by omega))
    have hr135 := row_kept_at hr134 hg113 (row_ne_lt hr134 (by omega))
    have hr136 := row_kept_new hr135 (below_grown hb121)
    cases hc127 : (r119 != 0)
    ·
     rw [hc127] at h126
     have hp137 : ¬ (r119 ≠ 0) := by first | simpa using hc127 | simpa [and_assoc] using hc127
     clear hc127
     refine co_false h126 rfl ?_
     refine wp_skip ?_
     refine co_then ?_
     refine co_seq ?_
     refine co_seq ?_
     refine co_reg ?_
     have hk138 := hk111'.below hb121
     refine pk (v := .agg #[.int .i64 n23, u, .int .u64 n98]) h126 rfl (rn_loadN rfl rfl Tryz.underlying26 rfl (by kernel_rfl) hk138.all) fun a139 h139 => ?_; clear h126
     have hRy := (ofRows_all hR (by omega))
     refine pw h139 rfl (op_call (args := #[.agg #[.int .i64 n23, u, .int .u64 n98]]) (R := fun res xw => res = .int .i64 (chkC n23 ls) ∧ Below w118.heap.size w118 xw) rfl rfl rfl (by kernel_rfl) (by kernel_rfl) (Tryz.call74 _ _) (wcheck_any n23 u ls n98 w118 (row_sl hr136 memE_len) (rows_ok hRy) (by omega) (by omega)) (by rintro e x ⟨rfl, hb142⟩; exact ⟨_, rfl, ⟨rfl, hb142⟩⟩)) ?_; clear h139
     rintro _ w141 a140 ⟨rfl, hb142⟩ h140
     have hz143 := hb142.size
     refine pk0 (v := .int .i64 (chkC n23 ls)) h140 rfl fun a144 h144 => ?_; clear h140
     refine pl_nil ?_
     refine co_then ?_
     refine co_seq ?_
     refine co_reg ?_
     refine pk0 (v := .int .i64 (chkC n23 ls)) h144 rfl fun a145 h145 => ?_; clear h144
     refine pk0 (v := .bool (chkC n23 ls != 0)) h145 rfl fun a146 h146 => ?_; clear h145
     refine pl_nil ?_
     refine co_then ?_
     have hB148 := hb_call hB130 hb142
     have ho149 := ho122.below hb121
     have ho150 := ho149.below hb142
     cases hc147 : (chkC n23 ls != 0)
     ·
      rw [hc147] at h146
      have hp151 : ¬ (chkC n23 ls ≠ 0) := by first | simpa using hc147 | simpa [and_assoc] using hc147
      clear hc147
      refine co_false h146 rfl ?_
      refine wp_skip ?_
      refine co_then ?_
      refine co_seq ?_
      refine co_reg ?_
      have hk152 := hk138.below hb142
      refine pk (v := .agg #[.int .i64 n23, u, .int .u64 n98]) h146 rfl (rn_loadN rfl rfl Tryz.underlying26 rfl (by kernel_rfl) hk152.all) fun a153 h153 => ?_; clear h146
      have hr159 := row_kept_new hr136 (below_grown hb142)
      have hk160 := hk133.below hb142
      refine pwD h153 rfl (op_storeN rfl rfl rfl (all_cons rfl (all_cons (row_one hr159) (all_cons rfl all_nil))) (by kernel_rfl) hk160 rfl) ?_; clear h153
      rintro _ w155 a154 ⟨hk156, hz157, hg158⟩ h154
      have hk156' : Blk w155 N3 26 #[.int .i64 n23, u, .int .u64 n98] := hk156; clear hk156
      have hz161 := hg158.size
      refine pk0 (v := .int .i64 0) h154 rfl fun a162 h162 => ?_; clear h154
      refine pl_nil ?_
      refine co_then ?_
      refine wp_ret ?_
      refine co_retC1 (Q := fun _ _ _ => True) h162 rfl rfl rfl hk156' Tryz.underlying26 rfl (by kernel_rfl) ?_
      have hr163 := row_kept_at hr159 hg158 (row_ne_lt hr159 (by omega))
      have hB164 := hb_at hB148 hg158 (by omega)
      have hRz := (ofRows_all hR (by omega))
      cases hof.symm.trans ((ofC_at hq26 hq54 hRz hq101 hq120).trans (ofEndC_c (by assumption) (by assumption)))
      exact ⟨_, rfl, (row_lows hr163 (by omega)), hB164⟩
     ·
      rw [hc147] at h146
      have hp165 : chkC n23 ls ≠ 0 := by first | simpa using hc147 | simpa [and_assoc] using hc147
      clear hc147
      refine co_true h146 rfl ?_
      refine co_seq ?_
      refine co_reg ?_
      refine pk0 (v := .agg #[.int .i64 0, .slice none 0 0, .int .u64 0]) h146 rfl fun a166 h166 => ?_; clear h146
      refine pk0 (v := .int .i64 (chkC n23 ls)) h166 rfl fun a167 h167 => ?_; clear h166
      have hk173 := hk133.below hb142
      refine pwD h167 rfl (op_storeN rfl rfl rfl (all_cons rfl (all_cons rfl (all_cons rfl all_nil))) (by kernel_rfl) hk173 rfl) ?_; clear h167
      rintro _ w169 a168 ⟨hk170, hz171, hg172⟩ h168
      have hk170' : Blk w169 N3 26 #[.int .i64 0, .slice none 0 0, .int .u64 0] := hk170; clear hk170
      have hz174 := hg172.size
      refine pk0 (v := .int .i64 (chkC n23 ls)) h168 rfl fun a175 h175 => ?_; clear h168
      refine pl_nil ?_
      refine co_then ?_
      refine wp_ret ?_
      refine co_thenR ?_
      refine co_retC1 (Q := fun _ _ _ => True) h175 rfl rfl rfl hk170' Tryz.underlying26 rfl (by kernel_rfl) ?_
      have hB176 := hb_at hB148 hg172 (by omega)
      have hRz := (ofRows_all hR (by omega))
      cases hof.symm.trans ((ofC_at hq26 hq54 hRz hq101 hq120).trans (ofEndC_b (by assumption) (by assumption)))
      exact ⟨_, rfl, (row_nilL _ _ _ _ _), hB176⟩
    ·
     rw [hc127] at h126
     have hp177 : r119 ≠ 0 := by first | simpa using hc127 | simpa [and_assoc] using hc127
     clear hc127
     refine co_true h126 rfl ?_
     refine co_seq ?_
     refine co_reg ?_
     refine pk0 (v := .agg #[.int .i64 0, .slice none 0 0, .int .u64 0]) h126 rfl fun a178 h178 => ?_; clear h126
     refine pk0 (v := .int .i64 r119) h178 rfl fun a179 h179 => ?_; clear h178
     refine pwD h179 rfl (op_storeN rfl rfl rfl (all_cons rfl (all_cons rfl (all_cons rfl all_nil))) (by kernel_rfl) hk133 rfl) ?_; clear h179
     rintro _ w181 a180 ⟨hk182, hz183, hg184⟩ h180
     have hk182' : Blk w181 N3 26 #[.int .i64 0, .slice none 0 0, .int .u64 0] := hk182; clear hk182
     have hz185 := hg184.size
     refine pk0 (v := .int .i64 r119) h180 rfl fun a186 h186 => ?_; clear h180
     refine pl_nil ?_
     refine co_then ?_
     refine wp_ret ?_
     refine co_thenR ?_
     refine co_retC1 (Q := fun _ _ _ => True) h186 rfl rfl rfl hk182' Tryz.underlying26 rfl (by kernel_rfl) ?_
     have hB187 := hb_at hB130 hg184 (by omega)
     have hRz := (ofRows_all hR (by omega))
     cases hof.symm.trans ((ofC_at hq26 hq54 hRz hq101 hq120).trans (ofEndC_a (by assumption)))
     exact ⟨_, rfl, (row_nilL _ _ _ _ _), hB187⟩
   ·
    rw [hc93] at h92
    have hp188 : ((i : Nat) : Int) < n51 := of_decide_eq_true hc93
    clear hc93
    refine co_true h92 rfl ?_
    refine wp_skip ?_
    refine co_then ?_
    refine co_seq ?_
    refine wp_block ?_
    refine dr_gen (fun x => Below w.heap.size w x) (by kernel_rfl) (fun w189 hg190 => ?_) (fun w189 hg190 => ?_)
    ·
     have hz191 := hg190.size
     have hB192 := hb_new hB86 hg190
     exact hB192
    have hz193 := hg190.size
    have hB194 := hb_new hB86 hg190
    refine dk0 0 (v := pt N36 1) h92 rfl rfl hB194 fun a195 h195 => ?_; clear h92
    refine dk0 2 (v := pt b13 0) h195 rfl rfl hB194 fun a196 h196 => ?_; clear h195
    refine dk0 4 (v := pt b13 0) h196 rfl rfl hB194 fun a197 h197 => ?_; clear h196
    refine dr_many [1, 3] (by kernel_rfl) (by simp) ⟨?_, ?_, trivial⟩
    ·
     have hk198 := hf83.kept hg190 (by simp)
     refine dr_opVal (i := 1) (v := u) h197 rfl rfl rfl rfl (by kernel_rfl) rfl (rn_load1 rfl rfl Tryz.isAgg24 (hk198.cell rfl)) hB194 (fun a199 h199 => ?_); clear h197
     have ho210 := hf84.new hg190
     refine d1 3 h199 rfl rfl (op_call (args := #[pt b13 0, .int .i64 3]) (R := fun res xw => ∃ (n : Int) (a' e' : Int), res = .int .i64 n ∧ numR s ps er 3 = (n, a', e') ∧ 0 ≤ n ∧ n ≤ 3 ∧ OR b13 s a' e' xw ∧ w189.grownBy xw (some b13)) rfl rfl rfl (by kernel_rfl) (by kernel_rfl) (Tryz.call58 _ _) (or_num b13 s ps er 3 w189 ho210 (by omega) (by omega) (by omega)) (by rintro q x ⟨n, a', e', rfl, h0, k0, k1, h1, h2⟩; exact ⟨_, rfl, n, a', e', rfl, h0, k0, k1, h1, h2⟩)) ?_ ?_; clear h199
     ·
      rintro _ w201 ⟨n202, a203, e204, rfl, hq205, hn206, hm207, ho208, hg209⟩
      have hz211 := hg209.size
      have hl212 := ho208.lt
      have hB213 := hb_at hB194 hg209 (by omega)
      exact hB213
     rintro _ w201 a200 ⟨n202, a203, e204, rfl, hq205, hn206, hm207, ho208, hg209⟩ h200
     have hz211 := hg209.size
     have hl212 := ho208.lt
     have hB213 := hb_at hB194 hg209 (by omega)
     refine d1 5 h200 rfl rfl (op_call (args := #[pt b13 0, .int .i64 1073741824]) (R := fun res xw => ∃ (n : Int) (a' e' : Int), res = .int .i64 n ∧ numR s a203 e204 1073741824 = (n, a', e') ∧ 0 ≤ n ∧ n ≤ 1073741824 ∧ OR b13 s a' e' xw ∧ w201.grownBy xw (some b13)) rfl rfl rfl (by kernel_rfl) (by kernel_rfl) (Tryz.call58 _ _) (or_num b13 s a203 e204 1073741824 w201 ho208 (by omega) (by omega) (by omega)) (by rintro q x ⟨n, a', e', rfl, h0, k0, k1, h1, h2⟩; exact ⟨_, rfl, n, a', e', rfl, h0, k0, k1, h1, h2⟩)) ?_ ?_; clear h200
     ·
      rintro _ w215 ⟨n216, a217, e218, rfl, hq219, hn220, hm221, ho222, hg223⟩
      have hz224 := hg223.size
      have hl225 := ho222.lt
      have hB226 := hb_at hB213 hg223 (by omega)
      exact hB226
     rintro _ w215 a214 ⟨n216, a217, e218, rfl, hq219, hn220, hm221, ho222, hg223⟩ h214
     have hz224 := hg223.size
     have hl225 := ho222.lt
     have hB226 := hb_at hB213 hg223 (by omega)
     refine dk0 6 (v := .agg #[.int .i64 n202, .int .i64 n216]) h214 rfl rfl hB226 fun a227 h227 => ?_; clear h214
     refine d1 7 h227 rfl rfl (op_new (v := fun N => .slice (some ⟨N, 0, none⟩) 1 1) (T := 154) (cs := #[.int .i64 n202, .int .i64 n216]) (by kernel_rfl) (by kernel_rfl) (by kernel_rfl)) ?_ ?_; clear h227
     ·
      rintro _ w229 ⟨N230, rfl, hN233, hz234, hk232, hg231⟩
      have hr236 := row_kept_new hf85 hg190
      have hr237 := row_kept_at hr236 hg209 (row_ne_lt hr236 (by omega))
      have hr238 := row_kept_at hr237 hg223 (row_ne_lt hr237 (by omega))
      have ha235 := row_fresh hr238 hN233
      have hz239 := hg231.size
      have hB240 := hb_new hB226 hg231
      exact hB240
     rintro _ w229 a228 ⟨N230, rfl, hN233, hz234, hk232, hg231⟩ h228
     have hr236 := row_kept_new hf85 hg190
     have hr237 := row_kept_at hr236 hg209 (row_ne_lt hr236 (by omega))
     have hr238 := row_kept_at hr237 hg223 (row_ne_lt hr237 (by omega))
     have ha235 := row_fresh hr238 hN233
     have hz239 := hg231.size
     try dsimp only at h228
     have hB240 := hb_new hB226 hg231
     have hr246 := row_kept_new hr238 hg231
     refine d1 8 h228 rfl rfl (op_append rfl (N36 + 1) 154 (z := .agg #[.int .i64 0, .int .i64 0]) (size := 2) (bytes := 16) Tryz.underlying24 (by kernel_rfl) rfl rfl rfl hr246 rfl hk232 rfl (by kernel_rfl) (by first | omega | (simp only [List.length_nil, List.length_append, List.length_cons, List.length_take, List.length_drop]; omega)) (by first | omega | (simp only [List.length_nil, List.length_append, List.length_cons, List.length_take, List.length_drop]; omega)) (by omega)) ?_ ?_; clear h228
     ·
      rintro v243 w242 ⟨hr244, hg245⟩
      have hr244' : w242.ownsRow (N36 + 1) 154 2 v243 ((ls ++ [(n202, n216)]).length) ((ls ++ [(n202, n216)]).flatMap memE) := row_push (y := (n202, n216)) hr244 rfl rfl; clear hr244
      have hz247 := hg245.size
      have hB248 := hb_row hB240 hr246 (by omega) hg245
      exact hB248
     rintro v243 w242 a241 ⟨hr244, hg245⟩ h241
     have hr244' : w242.ownsRow (N36 + 1) 154 2 v243 ((ls ++ [(n202, n216)]).length) ((ls ++ [(n202, n216)]).flatMap memE) := row_push (y := (n202, n216)) hr244 rfl rfl; clear hr244
     have hz247 := hg245.size
     have hB248 := hb_row hB240 hr246 (by omega) hg245
     refine dk0 9 (v := pt N36 1) h241 rfl rfl hB248 fun a249 h249 => ?_; clear h241
     have hk255 := hk198.kept hg209 (by simp; omega)
     have hk256 := hk255.kept hg223 (by simp; omega)
     have hk257 := hk256.kept hg231 (by simp)
     have hk258 := hk257.kept hg245 (row_ne_lt hr246 (by omega))
     refine d1D 10 h249 rfl rfl (op_store1 rfl rfl rfl (row_one hr244') Tryz.sizeOf24 hk258 rfl) ?_ ?_; clear h249
     ·
      rintro _ w251 ⟨hk252, hz253, hg254⟩
      have hk252' : Blk w251 N36 26 #[.int .i64 n23, v243, .int .u64 0] := hk252; clear hk252
      have hz259 := hg254.size
      have hB260 := hb_at hB248 hg254 (by omega)
      exact hB260
     rintro _ w251 a250 ⟨hk252, hz253, hg254⟩ h250
     have hk252' : Blk w251 N36 26 #[.int .i64 n23, v243, .int .u64 0] := hk252; clear hk252
     have hz259 := hg254.size
     refine dr_done (by kernel_rfl) ?_
     refine co_blockN ?_
     refine co_then ?_
     refine co_reg ?_
     refine pk (v := .int .i64 ((i + 1 : Nat) : Int)) h250 rfl (rn_arith' rfl rfl rfl rfl rfl rfl (IntWalk.i64_in _ (by omega)) (by omega)) fun a260 h260 => ?_; clear h250
     refine pk0 (v := .int .i64 ((i + 1 : Nat) : Int)) h260 rfl fun a261 h261 => ?_; clear h260
     refine pl_nil ?_
     refine co_then ?_
     refine ⟨(n51.toNat - (i + 1)), by omega, ?_⟩
     have hR' := ofRows_step hR (by omega) hq205 hq219
     have ho262 := ho222.new hg231
     have ho263 := ho262.row (row_ne_lt hr246 (by omega)) hg245
     have ho264 := ho263.at (by omega) hg254
     have hr265 := row_kept_at hr244' hg254 (row_ne_lt hr244' (by omega))
     have hB266 := hb_at hB248 hg254 (by omega)
     have hk267 := hk87.kept hg190 (by simp)
     have hk268 := hk267.kept hg209 (by simp; omega)
     have hk269 := hk268.kept hg223 (by simp; omega)
     have hk270 := hk269.kept hg231 (by simp)
     have hk271 := hk270.kept hg245 (row_ne_lt hr246 (by omega))
     have hk272 := hk271.kept hg254 (by simp; omega)
     exact ⟨i + 1, v243, ls ++ [(n202, n216)], a217, e218, h261.sub ⟨rfl, rfl, rfl, rfl, rfl, trivial⟩, rfl, by omega, by first | rfl | (simp; omega), by first | rfl | exact hR', hk252', ho264, (row_eq hr265 (rfl)), hB266, hk272⟩
    ·
     have ho283 := hf84.new hg190
     refine dr_op (i := 3) h197 rfl rfl rfl rfl (op_call (args := #[pt b13 0, .int .i64 3]) (R := fun res xw => ∃ (n : Int) (a' e' : Int), res = .int .i64 n ∧ numR s ps er 3 = (n, a', e') ∧ 0 ≤ n ∧ n ≤ 3 ∧ OR b13 s a' e' xw ∧ w189.grownBy xw (some b13)) rfl rfl rfl (by kernel_rfl) (by kernel_rfl) (Tryz.call58 _ _) (or_num b13 s ps er 3 w189 ho283 (by omega) (by omega) (by omega)) (by rintro q x ⟨n, a', e', rfl, h0, k0, k1, h1, h2⟩; exact ⟨_, rfl, n, a', e', rfl, h0, k0, k1, h1, h2⟩)) ?_ ?_; clear h197
     ·
      rintro _ w274 ⟨n275, a276, e277, rfl, hq278, hn279, hm280, ho281, hg282⟩
      have hz284 := hg282.size
      have hl285 := ho281.lt
      have hB286 := hb_at hB194 hg282 (by omega)
      exact hB286
     rintro _ w274 a273 ⟨n275, a276, e277, rfl, hq278, hn279, hm280, ho281, hg282⟩ h273
     have hz284 := hg282.size
     have hl285 := ho281.lt
     have hB286 := hb_at hB194 hg282 (by omega)
     refine dr_many [1, 5] (by kernel_rfl) (by simp) ⟨?_, ?_, trivial⟩
     ·
      have hk287 := hf83.kept hg190 (by simp)
      have hk288 := hk287.kept hg282 (by simp; omega)
      refine dr_opVal (i := 1) (v := u) h273 rfl rfl rfl rfl (by kernel_rfl) rfl (rn_load1 rfl rfl Tryz.isAgg24 (hk288.cell rfl)) hB286 (fun a289 h289 => ?_); clear h273
      refine d1 5 h289 rfl rfl (op_call (args := #[pt b13 0, .int .i64 1073741824]) (R := fun res xw => ∃ (n : Int) (a' e' : Int), res = .int .i64 n ∧ numR s a276 e277 1073741824 = (n, a', e') ∧ 0 ≤ n ∧ n ≤ 1073741824 ∧ OR b13 s a' e' xw ∧ w274.grownBy xw (some b13)) rfl rfl rfl (by kernel_rfl) (by kernel_rfl) (Tryz.call58 _ _) (or_num b13 s a276 e277 1073741824 w274 ho281 (by omega) (by omega) (by omega)) (by rintro q x ⟨n, a', e', rfl, h0, k0, k1, h1, h2⟩; exact ⟨_, rfl, n, a', e', rfl, h0, k0, k1, h1, h2⟩)) ?_ ?_; clear h289
      ·
       rintro _ w291 ⟨n292, a293, e294, rfl, hq295, hn296, hm297, ho298, hg299⟩
       have hz300 := hg299.size
       have hl301 := ho298.lt
       have hB302 := hb_at hB286 hg299 (by omega)
       exact hB302
      rintro _ w291 a290 ⟨n292, a293, e294, rfl, hq295, hn296, hm297, ho298, hg299⟩ h290
      have hz300 := hg299.size
      have hl301 := ho298.lt
      have hB302 := hb_at hB286 hg299 (by omega)
      refine dk0 6 (v := .agg #[.int .i64 n275, .int .i64 n292]) h290 rfl rfl hB302 fun a303 h303 => ?_; clear h290
      refine d1 7 h303 rfl rfl (op_new (v := fun N => .slice (some ⟨N, 0, none⟩) 1 1) (T := 154) (cs := #[.int .i64 n275, .int .i64 n292]) (by kernel_rfl) (by kernel_rfl) (by kernel_rfl)) ?_ ?_; clear h303
      ·
       rintro _ w305 ⟨N306, rfl, hN309, hz310, hk308, hg307⟩
       have hr312 := row_kept_new hf85 hg190
       have hr313 := row_kept_at hr312 hg282 (row_ne_lt hr312 (by omega))
       have hr314 := row_kept_at hr313 hg299 (row_ne_lt hr313 (by omega))
       have ha311 := row_fresh hr314 hN309
       have hz315 := hg307.size
       have hB316 := hb_new hB302 hg307
       exact hB316
      rintro _ w305 a304 ⟨N306, rfl, hN309, hz310, hk308, hg307⟩ h304
      have hr312 := row_kept_new hf85 hg190
      have hr313 := row_kept_at hr312 hg282 (row_ne_lt hr312 (by omega))
      have hr314 := row_kept_at hr313 hg299 (row_ne_lt hr313 (by omega))
      have ha311 := row_fresh hr314 hN309
      have hz315 := hg307.size
      try dsimp only at h304
      have hB316 := hb_new hB302 hg307
      have hr322 := row_kept_new hr314 hg307
      refine d1 8 h304 rfl rfl (op_append rfl (N36 + 1) 154 (z := .agg #[.int .i64 0, .int .i64 0]) (size := 2) (bytes := 16) Tryz.underlying24 (by kernel_rfl) rfl rfl rfl hr322 rfl hk308 rfl (by kernel_rfl) (by first | omega | (simp only [List.length_nil, List.length_append, List.length_cons, List.length_take, List.length_drop]; omega)) (by first | omega | (simp only [List.length_nil, List.length_append, List.length_cons, List.length_take, List.length_drop]; omega)) (by omega)) ?_ ?_; clear h304
      ·
       rintro v319 w318 ⟨hr320, hg321⟩
       have hr320' : w318.ownsRow (N36 + 1) 154 2 v319 ((ls ++ [(n275, n292)]).length) ((ls ++ [(n275, n292)]).flatMap memE) := row_push (y := (n275, n292)) hr320 rfl rfl; clear hr320
       have hz323 := hg321.size
       have hB324 := hb_row hB316 hr322 (by omega) hg321
       exact hB324
      rintro v319 w318 a317 ⟨hr320, hg321⟩ h317
      have hr320' : w318.ownsRow (N36 + 1) 154 2 v319 ((ls ++ [(n275, n292)]).length) ((ls ++ [(n275, n292)]).flatMap memE) := row_push (y := (n275, n292)) hr320 rfl rfl; clear hr320
      have hz323 := hg321.size
      have hB324 := hb_row hB316 hr322 (by omega) hg321
      refine dk0 9 (v := pt N36 1) h317 rfl rfl hB324 fun a325 h325 => ?_; clear h317
      have hk331 := hk288.kept hg299 (by simp; omega)
      have hk332 := hk331.kept hg307 (by simp)
      have hk333 := hk332.kept hg321 (row_ne_lt hr322 (by omega))
      refine d1D 10 h325 rfl rfl (op_store1 rfl rfl rfl (row_one hr320') Tryz.sizeOf24 hk333 rfl) ?_ ?_; clear h325
      ·
       rintro _ w327 ⟨hk328, hz329, hg330⟩
       have hk328' : Blk w327 N36 26 #[.int .i64 n23, v319, .int .u64 0] := hk328; clear hk328
       have hz334 := hg330.size
       have hB335 := hb_at hB324 hg330 (by omega)
       exact hB335
      rintro _ w327 a326 ⟨hk328, hz329, hg330⟩ h326
      have hk328' : Blk w327 N36 26 #[.int .i64 n23, v319, .int .u64 0] := hk328; clear hk328
      have hz334 := hg330.size
      refine dr_done (by kernel_rfl) ?_
      refine co_blockN ?_
      refine co_then ?_
      refine co_reg ?_
      refine pk (v := .int .i64 ((i + 1 : Nat) : Int)) h326 rfl (rn_arith' rfl rfl rfl rfl rfl rfl (IntWalk.i64_in _ (by omega)) (by omega)) fun a335 h335 => ?_; clear h326
      refine pk0 (v := .int .i64 ((i + 1 : Nat) : Int)) h335 rfl fun a336 h336 => ?_; clear h335
      refine pl_nil ?_
      refine co_then ?_
      refine ⟨(n51.toNat - (i + 1)), by omega, ?_⟩
      have hR' := ofRows_step hR (by omega) hq278 hq295
      have ho337 := ho298.new hg307
      have ho338 := ho337.row (row_ne_lt hr322 (by omega)) hg321
      have ho339 := ho338.at (by omega) hg330
      have hr340 := row_kept_at hr320' hg330 (row_ne_lt hr320' (by omega))
      have hB341 := hb_at hB324 hg330 (by omega)
      have hk342 := hk87.kept hg190 (by simp)
      have hk343 := hk342.kept hg282 (by simp; omega)
      have hk344 := hk343.kept hg299 (by simp; omega)
      have hk345 := hk344.kept hg307 (by simp)
      have hk346 := hk345.kept hg321 (row_ne_lt hr322 (by omega))
      have hk347 := hk346.kept hg330 (by simp; omega)
      exact ⟨i + 1, v319, ls ++ [(n275, n292)], a293, e294, h336.sub ⟨rfl, rfl, rfl, rfl, rfl, trivial⟩, rfl, by omega, by first | rfl | (simp; omega), by first | rfl | exact hR', hk328', ho339, (row_eq hr340 (rfl)), hB341, hk347⟩
     ·
      refine dr_op (i := 5) h273 rfl rfl rfl rfl (op_call (args := #[pt b13 0, .int .i64 1073741824]) (R := fun res xw => ∃ (n : Int) (a' e' : Int), res = .int .i64 n ∧ numR s a276 e277 1073741824 = (n, a', e') ∧ 0 ≤ n ∧ n ≤ 1073741824 ∧ OR b13 s a' e' xw ∧ w274.grownBy xw (some b13)) rfl rfl rfl (by kernel_rfl) (by kernel_rfl) (Tryz.call58 _ _) (or_num b13 s a276 e277 1073741824 w274 ho281 (by omega) (by omega) (by omega)) (by rintro q x ⟨n, a', e', rfl, h0, k0, k1, h1, h2⟩; exact ⟨_, rfl, n, a', e', rfl, h0, k0, k1, h1, h2⟩)) ?_ ?_; clear h273
      ·
       rintro _ w349 ⟨n350, a351, e352, rfl, hq353, hn354, hm355, ho356, hg357⟩
       have hz358 := hg357.size
       have hl359 := ho356.lt
       have hB360 := hb_at hB286 hg357 (by omega)
       exact hB360
      rintro _ w349 a348 ⟨n350, a351, e352, rfl, hq353, hn354, hm355, ho356, hg357⟩ h348
      have hz358 := hg357.size
      have hl359 := ho356.lt
      have hB360 := hb_at hB286 hg357 (by omega)
      refine dk0 6 (v := .agg #[.int .i64 n275, .int .i64 n350]) h348 rfl rfl hB360 fun a361 h361 => ?_; clear h348
      refine dr_many [1, 7] (by kernel_rfl) (by simp) ⟨?_, ?_, trivial⟩
      ·
       have hk362 := hf83.kept hg190 (by simp)
       have hk363 := hk362.kept hg282 (by simp; omega)
       have hk364 := hk363.kept hg357 (by simp; omega)
       refine dr_opVal (i := 1) (v := u) h361 rfl rfl rfl rfl (by kernel_rfl) rfl (rn_load1 rfl rfl Tryz.isAgg24 (hk364.cell rfl)) hB360 (fun a365 h365 => ?_); clear h361
       refine d1 7 h365 rfl rfl (op_new (v := fun N => .slice (some ⟨N, 0, none⟩) 1 1) (T := 154) (cs := #[.int .i64 n275, .int .i64 n350]) (by kernel_rfl) (by kernel_rfl) (by kernel_rfl)) ?_ ?_; clear h365
       ·
        rintro _ w367 ⟨N368, rfl, hN371, hz372, hk370, hg369⟩
        have hr374 := row_kept_new hf85 hg190
        have hr375 := row_kept_at hr374 hg282 (row_ne_lt hr374 (by omega))
        have hr376 := row_kept_at hr375 hg357 (row_ne_lt hr375 (by omega))
        have ha373 := row_fresh hr376 hN371
        have hz377 := hg369.size
        have hB378 := hb_new hB360 hg369
        exact hB378
       rintro _ w367 a366 ⟨N368, rfl, hN371, hz372, hk370, hg369⟩ h366
       have hr374 := row_kept_new hf85 hg190
       have hr375 := row_kept_at hr374 hg282 (row_ne_lt hr374 (by omega))
       have hr376 := row_kept_at hr375 hg357 (row_ne_lt hr375 (by omega))
       have ha373 := row_fresh hr376 hN371
       have hz377 := hg369.size
       try dsimp only at h366
       have hB378 := hb_new hB360 hg369
       have hr384 := row_kept_new hr376 hg369
       refine d1 8 h366 rfl rfl (op_append rfl (N36 + 1) 154 (z := .agg #[.int .i64 0, .int .i64 0]) (size := 2) (bytes := 16) Tryz.underlying24 (by kernel_rfl) rfl rfl rfl hr384 rfl hk370 rfl (by kernel_rfl) (by first | omega | (simp only [List.length_nil, List.length_append, List.length_cons, List.length_take, List.length_drop]; omega)) (by first | omega | (simp only [List.length_nil, List.length_append, List.length_cons, List.length_take, List.length_drop]; omega)) (by omega)) ?_ ?_; clear h366
       ·
        rintro v381 w380 ⟨hr382, hg383⟩
        have hr382' : w380.ownsRow (N36 + 1) 154 2 v381 ((ls ++ [(n275, n350)]).length) ((ls ++ [(n275, n350)]).flatMap memE) := row_push (y := (n275, n350)) hr382 rfl rfl; clear hr382
        have hz385 := hg383.size
        have hB386 := hb_row hB378 hr384 (by omega) hg383
        exact hB386
       rintro v381 w380 a379 ⟨hr382, hg383⟩ h379
       have hr382' : w380.ownsRow (N36 + 1) 154 2 v381 ((ls ++ [(n275, n350)]).length) ((ls ++ [(n275, n350)]).flatMap memE) := row_push (y := (n275, n350)) hr382 rfl rfl; clear hr382
       have hz385 := hg383.size
       have hB386 := hb_row hB378 hr384 (by omega) hg383
       refine dk0 9 (v := pt N36 1) h379 rfl rfl hB386 fun a387 h387 => ?_; clear h379
       have hk393 := hk364.kept hg369 (by simp)
       have hk394 := hk393.kept hg383 (row_ne_lt hr384 (by omega))
       refine d1D 10 h387 rfl rfl (op_store1 rfl rfl rfl (row_one hr382') Tryz.sizeOf24 hk394 rfl) ?_ ?_; clear h387
       ·
        rintro _ w389 ⟨hk390, hz391, hg392⟩
        have hk390' : Blk w389 N36 26 #[.int .i64 n23, v381, .int .u64 0] := hk390; clear hk390
        have hz395 := hg392.size
        have hB396 := hb_at hB386 hg392 (by omega)
        exact hB396
       rintro _ w389 a388 ⟨hk390, hz391, hg392⟩ h388
       have hk390' : Blk w389 N36 26 #[.int .i64 n23, v381, .int .u64 0] := hk390; clear hk390
       have hz395 := hg392.size
       refine dr_done (by kernel_rfl) ?_
       refine co_blockN ?_
       refine co_then ?_
       refine co_reg ?_
       refine pk (v := .int .i64 ((i + 1 : Nat) : Int)) h388 rfl (rn_arith' rfl rfl rfl rfl rfl rfl (IntWalk.i64_in _ (by omega)) (by omega)) fun a396 h396 => ?_; clear h388
       refine pk0 (v := .int .i64 ((i + 1 : Nat) : Int)) h396 rfl fun a397 h397 => ?_; clear h396
       refine pl_nil ?_
       refine co_then ?_
       refine ⟨(n51.toNat - (i + 1)), by omega, ?_⟩
       have hR' := ofRows_step hR (by omega) hq278 hq353
       have ho398 := ho356.new hg369
       have ho399 := ho398.row (row_ne_lt hr384 (by omega)) hg383
       have ho400 := ho399.at (by omega) hg392
       have hr401 := row_kept_at hr382' hg392 (row_ne_lt hr382' (by omega))
       have hB402 := hb_at hB386 hg392 (by omega)
       have hk403 := hk87.kept hg190 (by simp)
       have hk404 := hk403.kept hg282 (by simp; omega)
       have hk405 := hk404.kept hg357 (by simp; omega)
       have hk406 := hk405.kept hg369 (by simp)
       have hk407 := hk406.kept hg383 (row_ne_lt hr384 (by omega))
       have hk408 := hk407.kept hg392 (by simp; omega)
       exact ⟨i + 1, v381, ls ++ [(n275, n350)], a351, e352, h397.sub ⟨rfl, rfl, rfl, rfl, rfl, trivial⟩, rfl, by omega, by first | rfl | (simp; omega), by first | rfl | exact hR', hk390', ho400, (row_eq hr401 (rfl)), hB402, hk408⟩
      ·
       refine dr_op (i := 7) h361 rfl rfl rfl rfl (op_new (v := fun N => .slice (some ⟨N, 0, none⟩) 1 1) (T := 154) (cs := #[.int .i64 n275, .int .i64 n350]) (by kernel_rfl) (by kernel_rfl) (by kernel_rfl)) ?_ ?_; clear h361
       ·
        rintro _ w410 ⟨N411, rfl, hN414, hz415, hk413, hg412⟩
        have hr417 := row_kept_new hf85 hg190
        have hr418 := row_kept_at hr417 hg282 (row_ne_lt hr417 (by omega))
        have hr419 := row_kept_at hr418 hg357 (row_ne_lt hr418 (by omega))
        have ha416 := row_fresh hr419 hN414
        have hz420 := hg412.size
        have hB421 := hb_new hB360 hg412
        exact hB421
       rintro _ w410 a409 ⟨N411, rfl, hN414, hz415, hk413, hg412⟩ h409
       have hr417 := row_kept_new hf85 hg190
       have hr418 := row_kept_at hr417 hg282 (row_ne_lt hr417 (by omega))
       have hr419 := row_kept_at hr418 hg357 (row_ne_lt hr418 (by omega))
       have ha416 := row_fresh hr419 hN414
       have hz420 := hg412.size
       try dsimp only at h409
       have hB421 := hb_new hB360 hg412
       refine dr_many [1] (by kernel_rfl) (by simp) ⟨?_, trivial⟩
       ·
        have hk422 := hf83.kept hg190 (by simp)
        have hk423 := hk422.kept hg282 (by simp; omega)
        have hk424 := hk423.kept hg357 (by simp; omega)
        have hk425 := hk424.kept hg412 (by simp)
        refine dr_opVal (i := 1) (v := u) h409 rfl rfl rfl rfl (by kernel_rfl) rfl (rn_load1 rfl rfl Tryz.isAgg24 (hk425.cell rfl)) hB421 (fun a426 h426 => ?_); clear h409
        have hr432 := row_kept_new hr419 hg412
        refine d1 8 h426 rfl rfl (op_append rfl (N36 + 1) 154 (z := .agg #[.int .i64 0, .int .i64 0]) (size := 2) (bytes := 16) Tryz.underlying24 (by kernel_rfl) rfl rfl rfl hr432 rfl hk413 rfl (by kernel_rfl) (by first | omega | (simp only [List.length_nil, List.length_append, List.length_cons, List.length_take, List.length_drop]; omega)) (by first | omega | (simp only [List.length_nil, List.length_append, List.length_cons, List.length_take, List.length_drop]; omega)) (by omega)) ?_ ?_; clear h426
        ·
         rintro v429 w428 ⟨hr430, hg431⟩
         have hr430' : w428.ownsRow (N36 + 1) 154 2 v429 ((ls ++ [(n275, n350)]).length) ((ls ++ [(n275, n350)]).flatMap memE) := row_push (y := (n275, n350)) hr430 rfl rfl; clear hr430
         have hz433 := hg431.size
         have hB434 := hb_row hB421 hr432 (by omega) hg431
         exact hB434
        rintro v429 w428 a427 ⟨hr430, hg431⟩ h427
        have hr430' : w428.ownsRow (N36 + 1) 154 2 v429 ((ls ++ [(n275, n350)]).length) ((ls ++ [(n275, n350)]).flatMap memE) := row_push (y := (n275, n350)) hr430 rfl rfl; clear hr430
        have hz433 := hg431.size
        have hB434 := hb_row hB421 hr432 (by omega) hg431
        refine dk0 9 (v := pt N36 1) h427 rfl rfl hB434 fun a435 h435 => ?_; clear h427
        have hk441 := hk425.kept hg431 (row_ne_lt hr432 (by omega))
        refine d1D 10 h435 rfl rfl (op_store1 rfl rfl rfl (row_one hr430') Tryz.sizeOf24 hk441 rfl) ?_ ?_; clear h435
        ·
         rintro _ w437 ⟨hk438, hz439, hg440⟩
         have hk438' : Blk w437 N36 26 #[.int .i64 n23, v429, .int .u64 0] := hk438; clear hk438
         have hz442 := hg440.size
         have hB443 := hb_at hB434 hg440 (by omega)
         exact hB443
        rintro _ w437 a436 ⟨hk438, hz439, hg440⟩ h436
        have hk438' : Blk w437 N36 26 #[.int .i64 n23, v429, .int .u64 0] := hk438; clear hk438
        have hz442 := hg440.size
        refine dr_done (by kernel_rfl) ?_
        refine co_blockN ?_
        refine co_then ?_
        refine co_reg ?_
        refine pk (v := .int .i64 ((i + 1 : Nat) : Int)) h436 rfl (rn_arith' rfl rfl rfl rfl rfl rfl (IntWalk.i64_in _ (by omega)) (by omega)) fun a443 h443 => ?_; clear h436
        refine pk0 (v := .int .i64 ((i + 1 : Nat) : Int)) h443 rfl fun a444 h444 => ?_; clear h443
        refine pl_nil ?_
        refine co_then ?_
        refine ⟨(n51.toNat - (i + 1)), by omega, ?_⟩
        have hR' := ofRows_step hR (by omega) hq278 hq353
        have ho445 := ho356.new hg412
        have ho446 := ho445.row (row_ne_lt hr432 (by omega)) hg431
        have ho447 := ho446.at (by omega) hg440
        have hr448 := row_kept_at hr430' hg440 (row_ne_lt hr430' (by omega))
        have hB449 := hb_at hB434 hg440 (by omega)
        have hk450 := hk87.kept hg190 (by simp)
        have hk451 := hk450.kept hg282 (by simp; omega)
        have hk452 := hk451.kept hg357 (by simp; omega)
        have hk453 := hk452.kept hg412 (by simp)
        have hk454 := hk453.kept hg431 (row_ne_lt hr432 (by omega))
        have hk455 := hk454.kept hg440 (by simp; omega)
        exact ⟨i + 1, v429, ls ++ [(n275, n350)], a351, e352, h444.sub ⟨rfl, rfl, rfl, rfl, rfl, trivial⟩, rfl, by omega, by first | rfl | (simp; omega), by first | rfl | exact hR', hk438', ho447, (row_eq hr448 (rfl)), hB449, hk455⟩
set_option maxRecDepth 100000 in
theorem crOf_any (s : ByteArray) (ep : Int) (ms : List MemT) (fl : Int) (x : Int) (w : World) (hsz : s.size ≤ 9223372036854775807) (hof : ofC s = ((ep, ms, fl), x)) :
    Calls Tryz.prog 157 #[.string s] w fun e w' => ∃ (u : Value), e = .returned (.tuple #[.agg #[.int .i64 ep, u, .int .u64 fl], .int .i64 x]) ∧ w'.ownsRow w.heap.size 154 2 u ms.length (ms.flatMap memE) ∧ Below w.heap.size w w' := by
 have hB0 := Below.refl w.heap.size w
 refine co_enter (n := 54) Tryz.func157 rfl rfl rfl [(0, .string s)] rfl (fun a h0 => ?_)
 refine co_seq ?_
 refine co_reg ?_
 refine pw h0 rfl (op_new (v := fun N => pt N 0) (T := 26) (cs := #[.int .i64 0, .slice none 0 0, .int .u64 0]) (by kernel_rfl) (by kernel_rfl) (by kernel_rfl)) ?_; clear h0
 rintro _ w2 a1 ⟨N3, rfl, hN6, hz7, hk5, hg4⟩ h1
 have hz8 := hg4.size
 try dsimp only at h1
 refine pk0 (v := .int .i64 0) h1 rfl fun a9 h9 => ?_; clear h1
 refine pl_nil ?_
 refine co_then ?_
 refine co_seq ?_
 refine co_reg ?_
 refine pk0 (v := .string s) h9 rfl fun a10 h10 => ?_; clear h9
 refine pk0 (v := .agg #[.string s, .int .i64 0, .int .i64 0]) h10 rfl fun a11 h11 => ?_; clear h10
 refine pw h11 rfl (op_new (v := fun N => pt N 0) (T := 110) (cs := #[.string s, .int .i64 0, .int .i64 0]) (by kernel_rfl) (by kernel_rfl) (by kernel_rfl)) ?_; clear h11
 rintro _ w13 a12 ⟨N14, rfl, hN17, hz18, hk16, hg15⟩ h12
 have hz19 := hg15.size
 try dsimp only at h12
 refine pk0 (v := pt N14 0) h12 rfl fun a20 h20 => ?_; clear h12
 refine pl_nil ?_
 refine co_then ?_
 refine co_seq ?_
 refine co_reg ?_
 refine pk0 (v := .agg #[.int .i64 0, .slice none 0 0, .int .u64 0]) h20 rfl fun a21 h21 => ?_; clear h20
 refine pw h21 rfl (op_new (v := fun N => pt N 0) (T := 26) (cs := #[.int .i64 0, .slice none 0 0, .int .u64 0]) (by kernel_rfl) (by kernel_rfl) (by kernel_rfl)) ?_; clear h21
 rintro _ w23 a22 ⟨N24, rfl, hN27, hz28, hk26, hg25⟩ h22
 have hz29 := hg25.size
 try dsimp only at h22
 refine pwD h22 rfl (op_storeN rfl rfl rfl (all_cons rfl (all_cons rfl (all_cons rfl all_nil))) (by kernel_rfl) hk26 rfl) ?_; clear h22
 rintro _ w31 a30 ⟨hk32, hz33, hg34⟩ h30
 have hk32' : Blk w31 N24 26 #[.int .i64 0, .slice none 0 0, .int .u64 0] := hk32; clear hk32
 have hz35 := hg34.size
 refine pl_nil ?_
 refine co_then ?_
 refine co_seq ?_
 refine co_reg ?_
 refine pk0 (v := pt N14 0) h30 rfl fun a36 h36 => ?_; clear h30
 have hk40 := hk16.kept hg25 (by simp)
 have hk41 := hk40.kept hg34 (by simp; omega)
 have ho39 := oxr_of hk41
 refine pw h36 rfl (op_call (args := #[pt N14 0, .int .i64 1073741824]) (R := fun res xw => ∃ (n : Int) (a' e' : Int), res = .int .i64 n ∧ numR s 0 0 1073741824 = (n, a', e') ∧ 0 ≤ n ∧ n ≤ 1073741824 ∧ OXR N14 s a' e' xw ∧ w31.grownBy xw (some N14)) rfl rfl rfl (by kernel_rfl) (by kernel_rfl) (Tryz.call62 _ _) (oxr_num N14 s 0 0 1073741824 w31 ho39 (by omega) (by omega) (by omega)) (by rintro q x ⟨n, a', e', rfl, h0, k0, k1, h1, h2⟩; exact ⟨_, rfl, n, a', e', rfl, h0, k0, k1, h1, h2⟩)) ?_; clear h36
 rintro _ w38 a37 ⟨n42, a43, e44, rfl, hq45, hn46, hm47, ho48, hg49⟩ h37
 have hz50 := hg49.size
 have hl51 := ho48.lt
 refine pk0 (v := pt N24 0) h37 rfl fun a52 h52 => ?_; clear h37
 have hk58 := hk32'.kept hg49 (by simp; omega)
 refine pwD h52 rfl (op_store1 rfl rfl rfl rfl Tryz.sizeOf3 hk58 rfl) ?_; clear h52
 rintro _ w54 a53 ⟨hk55, hz56, hg57⟩ h53
 have hk55' : Blk w54 N24 26 #[.int .i64 n42, .slice none 0 0, .int .u64 0] := hk55; clear hk55
 have hz59 := hg57.size
 refine pl_nil ?_
 refine co_then ?_
 refine co_seq ?_
 refine co_reg ?_
 refine pk0 (v := pt N14 0) h53 rfl fun a60 h60 => ?_; clear h53
 have ho71 := ho48.at (by omega) hg57
 refine pw h60 rfl (op_call (args := #[pt N14 0, .int .i64 4]) (R := fun res xw => ∃ (n : Int) (a' e' : Int), res = .int .i64 n ∧ numR s a43 e44 4 = (n, a', e') ∧ 0 ≤ n ∧ n ≤ 4 ∧ OXR N14 s a' e' xw ∧ w54.grownBy xw (some N14)) rfl rfl rfl (by kernel_rfl) (by kernel_rfl) (Tryz.call62 _ _) (oxr_num N14 s a43 e44 4 w54 ho71 (by omega) (by omega) (by omega)) (by rintro q x ⟨n, a', e', rfl, h0, k0, k1, h1, h2⟩; exact ⟨_, rfl, n, a', e', rfl, h0, k0, k1, h1, h2⟩)) ?_; clear h60
 rintro _ w62 a61 ⟨n63, a64, e65, rfl, hq66, hn67, hm68, ho69, hg70⟩ h61
 have hz72 := hg70.size
 have hl73 := ho69.lt
 refine pk0 (v := .int .i64 n63) h61 rfl fun a74 h74 => ?_; clear h61
 refine pl_nil ?_
 refine co_then ?_
 refine co_seq ?_
 refine co_seq ?_
 refine co_reg ?_
 refine pk0 (v := .int .i64 0) h74 rfl fun a75 h75 => ?_; clear h74
 refine pl_nil ?_
 refine co_then ?_
 refine wp_block ?_
 have h76 : Slots 54 [(2, pt N3 0), (4, pt N14 0), (5, pt N24 0), (6, .int .i64 n63), (7, .int .i64 0)] _ := h75.sub ⟨rfl, rfl, rfl, rfl, rfl, trivial⟩; clear h75
 refine co_loop (fun mm a x => ∃ (i : Nat) (u : Value) (ls : List MemT) (ps : Int) (er : Int), Slots 54 [(2, pt N3 0), (4, pt N14 0), (5, pt N24 0), (6, .int .i64 n63), (7, .int .i64 ((i : Nat) : Int))] a ∧ mm = n63.toNat - i ∧ (((i : Nat) : Int) ≤ n63) ∧ (ls.length = i) ∧ (ofRows s (n63.toNat - i) ps er ls = ofRows s n63.toNat a64 e65 []) ∧ Blk x N24 26 #[.int .i64 n42, u, .int .u64 0] ∧ OXR N14 s ps er x ∧ x.ownsRow (N24 + 1) 154 2 u ls.length (ls.flatMap memE) ∧ Below w.heap.size w x ∧ Blk x N3 26 #[.int .i64 0, .slice none 0 0, .int .u64 0]) (n63.toNat - 0) ?_ ?_
 have hk77 := hk55'.kept hg70 (by simp; omega)
 have hB78 := hb_new hB0 hg4
 have hB79 := hb_new hB78 hg15
 have hB80 := hb_new hB79 hg25
 have hB81 := hb_at hB80 hg34 (by omega)
 have hB82 := hb_at hB81 hg49 (by omega)
 have hB83 := hb_at hB82 hg57 (by omega)
 have hB84 := hb_at hB83 hg70 (by omega)
 have hk85 := hk5.kept hg15 (by simp)
 have hk86 := hk85.kept hg25 (by simp)
 have hk87 := hk86.kept hg34 (by simp; omega)
 have hk88 := hk87.kept hg49 (by simp; omega)
 have hk89 := hk88.kept hg57 (by simp; omega)
 have hk90 := hk89.kept hg70 (by simp; omega)
 · exact ⟨0, (.slice none 0 0), [], a64, e65, h76.sub ⟨rfl, rfl, rfl, rfl, (slot_eq rfl (congrArg (Value.int .i64) (by first | rfl | omega))), trivial⟩, rfl, by omega, by first | rfl | (simp; omega), by first | rfl | exact hR', hk77, ho69, (row_nilL _ _ _ _ _), hB84, hk90⟩
 · rintro k91 a92 w93 ⟨i, u, ls, ps, er, h92, rfl, hi94, hi95, hi96, hf97, hf98, hf99, hB100, hk101⟩
   have hz102 := hB100.size
   have hl103 := hk101.lt
   have hl104 := hf97.lt
   have hl105 := hf98.lt
   have hR : ofRows s (n63.toNat - i) ps er ls = ofRows s n63.toNat a64 e65 [] := by assumption
   refine co_seq ?_
   refine co_seq ?_
   refine co_reg ?_
   refine pk0 (v := .int .i64 ((i : Nat) : Int)) h92 rfl fun a106 h106 => ?_; clear h92
   refine pk0 (v := .int .i64 n63) h106 rfl fun a107 h107 => ?_; clear h106
   refine pk0 (v := .bool (decide (((i : Nat) : Int) < n63))) h107 rfl fun a108 h108 => ?_; clear h107
   refine pl_nil ?_
   refine co_then ?_
   cases hc109 : (decide (((i : Nat) : Int) < n63))
   ·
    rw [hc109] at h108
    have hp110 : ¬ (((i : Nat) : Int) < n63) := of_decide_eq_false hc109
    clear hc109
    refine co_false h108 rfl ?_
    refine wp_exit ?_
    refine co_thenX ?_
    refine co_thenX ?_
    refine co_blockX ?_
    refine co_then ?_
    refine co_seq ?_
    refine co_reg ?_
    refine pk0 (v := pt N14 0) h108 rfl fun a111 h111 => ?_; clear h108
    refine pw h111 rfl (op_call (args := #[pt N14 0]) (R := fun res xw => ∃ (n : Int) (a' e' : Int), res = .int .u64 n ∧ bigR s ps er = (n, a', e') ∧ 0 ≤ n ∧ n < 18446744073709551616 ∧ OXR N14 s a' e' xw ∧ w93.grownBy xw (some N14)) rfl rfl rfl (by kernel_rfl) (by kernel_rfl) (Tryz.call128 _ _) (oxr_big N14 s ps er w93 hf98 (by omega)) (by rintro q x ⟨n, a', e', rfl, h0, k0, k1, h1, h2⟩; exact ⟨_, rfl, n, a', e', rfl, h0, k0, k1, h1, h2⟩)) ?_; clear h111
    rintro _ w113 a112 ⟨n114, a115, e116, rfl, hq117, hn118, hm119, ho120, hg121⟩ h112
    have hz122 := hg121.size
    have hl123 := ho120.lt
    refine pk0 (v := pt N24 2) h112 rfl fun a124 h124 => ?_; clear h112
    have hk130 := hf97.kept hg121 (by simp; omega)
    refine pwD h124 rfl (op_store1 rfl rfl rfl rfl Tryz.sizeOf22 hk130 rfl) ?_; clear h124
    rintro _ w126 a125 ⟨hk127, hz128, hg129⟩ h125
    have hk127' : Blk w126 N24 26 #[.int .i64 n42, u, .int .u64 n114] := hk127; clear hk127
    have hz131 := hg129.size
    refine pl_nil ?_
    refine co_then ?_
    refine co_seq ?_
    refine co_seq ?_
    refine co_reg ?_
    refine pk0 (v := pt N14 0) h125 rfl fun a132 h132 => ?_; clear h125
    have ho138 := ho120.at (by omega) hg129
    refine pw h132 rfl (op_call (args := #[pt N14 0]) (R := fun res xw => ∃ r : Int, res = .int .i64 r ∧ endV s a115.toNat e116 = r ∧ Below w126.heap.size w126 xw) rfl rfl rfl (by kernel_rfl) (by kernel_rfl) (Tryz.call64 _ _) (oxr_end N14 s a115 e116 w126 ho138 (by omega)) (by rintro e x ⟨r, rfl, h0, h2⟩; exact ⟨_, rfl, r, rfl, h0, h2⟩)) ?_; clear h132
    rintro _ w134 a133 ⟨r135, rfl, hq136, hb137⟩ h133
    have hz139 := hb137.size
    refine pk0 (v := .int .i64 r135) h133 rfl fun a140 h140 => ?_; clear h133
    refine pl_nil ?_
    refine co_then ?_
    refine co_seq ?_
    refine co_reg ?_
    refine pk0 (v := .int .i64 r135) h140 rfl fun a141 h141 => ?_; clear h140
    refine pk0 (v := .bool (r135 != 0)) h141 rfl fun a142 h142 => ?_; clear h141
    refine pl_nil ?_
    refine co_then ?_
    have hB144 := hb_at hB100 hg121 (by omega)
    have hB145 := hb_at hB144 hg129 (by omega)
    have hB146 := hb_call hB145 hb137
    have hk147 := hk101.kept hg121 (by simp; omega)
    have hk148 := hk147.kept hg129 (by simp; omega)
    have hk149 := hk148.below hb137
    have hr150 := row_kept_at hf99 hg121 (row_ne_lt hf99 (by omega))
    have hr151 := row_kept_at hr150 hg129 (row_ne_lt hr150 (by omega))
    have hr152 := row_kept_new hr151 (below_grown hb137)
    cases hc143 : (r135 != 0)
    ·
     rw [hc143] at h142
     have hp153 : ¬ (r135 ≠ 0) := by first | simpa using hc143 | simpa [and_assoc] using hc143
     clear hc143
     refine co_false h142 rfl ?_
     refine wp_skip ?_
     refine co_then ?_
     refine co_seq ?_
     refine co_seq ?_
     refine co_reg ?_
     have hk154 := hk127'.below hb137
     refine pk (v := .agg #[.int .i64 n42, u, .int .u64 n114]) h142 rfl (rn_loadN rfl rfl Tryz.underlying26 rfl (by kernel_rfl) hk154.all) fun a155 h155 => ?_; clear h142
     have hRy := (ofRows_all hR (by omega))
     refine pw h155 rfl (op_call (args := #[.agg #[.int .i64 n42, u, .int .u64 n114]]) (R := fun res xw => res = .int .i64 (chkC n42 ls) ∧ Below w134.heap.size w134 xw) rfl rfl rfl (by kernel_rfl) (by kernel_rfl) (Tryz.call79 _ _) (wrcheck_any n42 u ls n114 w134 (row_sl hr152 memE_len) (rows_ok hRy) (by omega) (by omega)) (by rintro e x ⟨rfl, hb158⟩; exact ⟨_, rfl, ⟨rfl, hb158⟩⟩)) ?_; clear h155
     rintro _ w157 a156 ⟨rfl, hb158⟩ h156
     have hz159 := hb158.size
     refine pk0 (v := .int .i64 (chkC n42 ls)) h156 rfl fun a160 h160 => ?_; clear h156
     refine pl_nil ?_
     refine co_then ?_
     refine co_seq ?_
     refine co_reg ?_
     refine pk0 (v := .int .i64 (chkC n42 ls)) h160 rfl fun a161 h161 => ?_; clear h160
     refine pk0 (v := .bool (chkC n42 ls != 0)) h161 rfl fun a162 h162 => ?_; clear h161
     refine pl_nil ?_
     refine co_then ?_
     have hB164 := hb_call hB146 hb158
     have ho165 := ho138.below hb137
     have ho166 := ho165.below hb158
     cases hc163 : (chkC n42 ls != 0)
     ·
      rw [hc163] at h162
      have hp167 : ¬ (chkC n42 ls ≠ 0) := by first | simpa using hc163 | simpa [and_assoc] using hc163
      clear hc163
      refine co_false h162 rfl ?_
      refine wp_skip ?_
      refine co_then ?_
      refine co_seq ?_
      refine co_reg ?_
      have hk168 := hk154.below hb158
      refine pk (v := .agg #[.int .i64 n42, u, .int .u64 n114]) h162 rfl (rn_loadN rfl rfl Tryz.underlying26 rfl (by kernel_rfl) hk168.all) fun a169 h169 => ?_; clear h162
      have hr175 := row_kept_new hr152 (below_grown hb158)
      have hk176 := hk149.below hb158
      refine pwD h169 rfl (op_storeN rfl rfl rfl (all_cons rfl (all_cons (row_one hr175) (all_cons rfl all_nil))) (by kernel_rfl) hk176 rfl) ?_; clear h169
      rintro _ w171 a170 ⟨hk172, hz173, hg174⟩ h170
      have hk172' : Blk w171 N3 26 #[.int .i64 n42, u, .int .u64 n114] := hk172; clear hk172
      have hz177 := hg174.size
      refine pk0 (v := .int .i64 0) h170 rfl fun a178 h178 => ?_; clear h170
      refine pl_nil ?_
      refine co_then ?_
      refine wp_ret ?_
      refine co_retC1 (Q := fun _ _ _ => True) h178 rfl rfl rfl hk172' Tryz.underlying26 rfl (by kernel_rfl) ?_
      have hr179 := row_kept_at hr175 hg174 (row_ne_lt hr175 (by omega))
      have hB180 := hb_at hB164 hg174 (by omega)
      have hRz := (ofRows_all hR (by omega))
      cases hof.symm.trans ((ofC_at hq45 hq66 hRz hq117 hq136).trans (ofEndC_c (by assumption) (by assumption)))
      exact ⟨_, rfl, (row_lows hr179 (by omega)), hB180⟩
     ·
      rw [hc163] at h162
      have hp181 : chkC n42 ls ≠ 0 := by first | simpa using hc163 | simpa [and_assoc] using hc163
      clear hc163
      refine co_true h162 rfl ?_
      refine co_seq ?_
      refine co_reg ?_
      refine pk0 (v := .agg #[.int .i64 0, .slice none 0 0, .int .u64 0]) h162 rfl fun a182 h182 => ?_; clear h162
      refine pk0 (v := .int .i64 (chkC n42 ls)) h182 rfl fun a183 h183 => ?_; clear h182
      have hk189 := hk149.below hb158
      refine pwD h183 rfl (op_storeN rfl rfl rfl (all_cons rfl (all_cons rfl (all_cons rfl all_nil))) (by kernel_rfl) hk189 rfl) ?_; clear h183
      rintro _ w185 a184 ⟨hk186, hz187, hg188⟩ h184
      have hk186' : Blk w185 N3 26 #[.int .i64 0, .slice none 0 0, .int .u64 0] := hk186; clear hk186
      have hz190 := hg188.size
      refine pk0 (v := .int .i64 (chkC n42 ls)) h184 rfl fun a191 h191 => ?_; clear h184
      refine pl_nil ?_
      refine co_then ?_
      refine wp_ret ?_
      refine co_thenR ?_
      refine co_retC1 (Q := fun _ _ _ => True) h191 rfl rfl rfl hk186' Tryz.underlying26 rfl (by kernel_rfl) ?_
      have hB192 := hb_at hB164 hg188 (by omega)
      have hRz := (ofRows_all hR (by omega))
      cases hof.symm.trans ((ofC_at hq45 hq66 hRz hq117 hq136).trans (ofEndC_b (by assumption) (by assumption)))
      exact ⟨_, rfl, (row_nilL _ _ _ _ _), hB192⟩
    ·
     rw [hc143] at h142
     have hp193 : r135 ≠ 0 := by first | simpa using hc143 | simpa [and_assoc] using hc143
     clear hc143
     refine co_true h142 rfl ?_
     refine co_seq ?_
     refine co_reg ?_
     refine pk0 (v := .agg #[.int .i64 0, .slice none 0 0, .int .u64 0]) h142 rfl fun a194 h194 => ?_; clear h142
     refine pk0 (v := .int .i64 r135) h194 rfl fun a195 h195 => ?_; clear h194
     refine pwD h195 rfl (op_storeN rfl rfl rfl (all_cons rfl (all_cons rfl (all_cons rfl all_nil))) (by kernel_rfl) hk149 rfl) ?_; clear h195
     rintro _ w197 a196 ⟨hk198, hz199, hg200⟩ h196
     have hk198' : Blk w197 N3 26 #[.int .i64 0, .slice none 0 0, .int .u64 0] := hk198; clear hk198
     have hz201 := hg200.size
     refine pk0 (v := .int .i64 r135) h196 rfl fun a202 h202 => ?_; clear h196
     refine pl_nil ?_
     refine co_then ?_
     refine wp_ret ?_
     refine co_thenR ?_
     refine co_retC1 (Q := fun _ _ _ => True) h202 rfl rfl rfl hk198' Tryz.underlying26 rfl (by kernel_rfl) ?_
     have hB203 := hb_at hB146 hg200 (by omega)
     have hRz := (ofRows_all hR (by omega))
     cases hof.symm.trans ((ofC_at hq45 hq66 hRz hq117 hq136).trans (ofEndC_a (by assumption)))
     exact ⟨_, rfl, (row_nilL _ _ _ _ _), hB203⟩
   ·
    rw [hc109] at h108
    have hp204 : ((i : Nat) : Int) < n63 := of_decide_eq_true hc109
    clear hc109
    refine co_true h108 rfl ?_
    refine wp_skip ?_
    refine co_then ?_
    refine co_seq ?_
    refine wp_block ?_
    refine co_seq ?_
    refine co_reg ?_
    refine pk0 (v := .agg #[.int .i64 0, .int .i64 0]) h108 rfl fun a205 h205 => ?_; clear h108
    refine pw h205 rfl (op_new (v := fun N => pt N 0) (T := 154) (cs := #[.int .i64 0, .int .i64 0]) (by kernel_rfl) (by kernel_rfl) (by kernel_rfl)) ?_; clear h205
    rintro _ w207 a206 ⟨N208, rfl, hN211, hz212, hk210, hg209⟩ h206
    have ha213 := row_fresh hf99 hN211
    have hz214 := hg209.size
    try dsimp only at h206
    refine pwD h206 rfl (op_storeN rfl rfl rfl (by kernel_rfl) (by kernel_rfl) hk210 rfl) ?_; clear h206
    rintro _ w216 a215 ⟨hk217, hz218, hg219⟩ h215
    have hk217' : Blk w216 N208 154 #[.int .i64 0, .int .i64 0] := hk217; clear hk217
    have hz220 := hg219.size
    refine pl_nil ?_
    refine co_then ?_
    refine co_seq ?_
    refine co_reg ?_
    refine pk0 (v := pt N14 0) h215 rfl fun a221 h221 => ?_; clear h215
    have ho232 := hf98.new hg209
    have ho233 := ho232.at (by omega) hg219
    refine pw h221 rfl (op_call (args := #[pt N14 0, .int .i64 3]) (R := fun res xw => ∃ (n : Int) (a' e' : Int), res = .int .i64 n ∧ numR s ps er 3 = (n, a', e') ∧ 0 ≤ n ∧ n ≤ 3 ∧ OXR N14 s a' e' xw ∧ w216.grownBy xw (some N14)) rfl rfl rfl (by kernel_rfl) (by kernel_rfl) (Tryz.call62 _ _) (oxr_num N14 s ps er 3 w216 ho233 (by omega) (by omega) (by omega)) (by rintro q x ⟨n, a', e', rfl, h0, k0, k1, h1, h2⟩; exact ⟨_, rfl, n, a', e', rfl, h0, k0, k1, h1, h2⟩)) ?_; clear h221
    rintro _ w223 a222 ⟨n224, a225, e226, rfl, hq227, hn228, hm229, ho230, hg231⟩ h222
    have hz234 := hg231.size
    have hl235 := ho230.lt
    refine pk0 (v := pt N208 0) h222 rfl fun a236 h236 => ?_; clear h222
    have hk242 := hk217'.kept hg231 (by simp; omega)
    refine pwD h236 rfl (op_store1 rfl rfl rfl rfl Tryz.sizeOf3 hk242 rfl) ?_; clear h236
    rintro _ w238 a237 ⟨hk239, hz240, hg241⟩ h237
    have hk239' : Blk w238 N208 154 #[.int .i64 n224, .int .i64 0] := hk239; clear hk239
    have hz243 := hg241.size
    refine pl_nil ?_
    refine co_then ?_
    refine co_seq ?_
    refine co_reg ?_
    refine pk0 (v := pt N14 0) h237 rfl fun a244 h244 => ?_; clear h237
    have ho255 := ho230.at (by omega) hg241
    refine pw h244 rfl (op_call (args := #[pt N14 0, .int .i64 1073741824]) (R := fun res xw => ∃ (n : Int) (a' e' : Int), res = .int .i64 n ∧ numR s a225 e226 1073741824 = (n, a', e') ∧ 0 ≤ n ∧ n ≤ 1073741824 ∧ OXR N14 s a' e' xw ∧ w238.grownBy xw (some N14)) rfl rfl rfl (by kernel_rfl) (by kernel_rfl) (Tryz.call62 _ _) (oxr_num N14 s a225 e226 1073741824 w238 ho255 (by omega) (by omega) (by omega)) (by rintro q x ⟨n, a', e', rfl, h0, k0, k1, h1, h2⟩; exact ⟨_, rfl, n, a', e', rfl, h0, k0, k1, h1, h2⟩)) ?_; clear h244
    rintro _ w246 a245 ⟨n247, a248, e249, rfl, hq250, hn251, hm252, ho253, hg254⟩ h245
    have hz256 := hg254.size
    have hl257 := ho253.lt
    refine pk0 (v := pt N208 1) h245 rfl fun a258 h258 => ?_; clear h245
    have hk264 := hk239'.kept hg254 (by simp; omega)
    refine pwD h258 rfl (op_store1 rfl rfl rfl rfl Tryz.sizeOf3 hk264 rfl) ?_; clear h258
    rintro _ w260 a259 ⟨hk261, hz262, hg263⟩ h259
    have hk261' : Blk w260 N208 154 #[.int .i64 n224, .int .i64 n247] := hk261; clear hk261
    have hz265 := hg263.size
    refine pl_nil ?_
    refine co_then ?_
    refine co_reg ?_
    refine pk0 (v := pt N24 1) h259 rfl fun a266 h266 => ?_; clear h259
    have hk267 := hf97.kept hg209 (by simp)
    have hk268 := hk267.kept hg219 (by simp; omega)
    have hk269 := hk268.kept hg231 (by simp; omega)
    have hk270 := hk269.kept hg241 (by simp; omega)
    have hk271 := hk270.kept hg254 (by simp; omega)
    have hk272 := hk271.kept hg263 (by simp; omega)
    refine pk (v := u) h266 rfl (rn_load1 rfl rfl Tryz.isAgg24 (hk272.cell rfl)) fun a273 h273 => ?_; clear h266
    refine pk (v := .agg #[.int .i64 n224, .int .i64 n247]) h273 rfl (rn_loadN rfl rfl Tryz.underlying154 rfl (by kernel_rfl) hk261'.all) fun a274 h274 => ?_; clear h273
    refine pw h274 rfl (op_new (v := fun N => .slice (some ⟨N, 0, none⟩) 1 1) (T := 154) (cs := #[.int .i64 n224, .int .i64 n247]) (by kernel_rfl) (by kernel_rfl) (by kernel_rfl)) ?_; clear h274
    rintro _ w276 a275 ⟨N277, rfl, hN280, hz281, hk279, hg278⟩ h275
    have hr283 := row_kept_new hf99 hg209
    have hr284 := row_kept_at hr283 hg219 (ha213)
    have hr285 := row_kept_at hr284 hg231 (row_ne_lt hr284 (by omega))
    have hr286 := row_kept_at hr285 hg241 (ha213)
    have hr287 := row_kept_at hr286 hg254 (row_ne_lt hr286 (by omega))
    have hr288 := row_kept_at hr287 hg263 (ha213)
    have ha282 := row_fresh hr288 hN280
    have hz289 := hg278.size
    try dsimp only at h275
    have hr295 := row_kept_new hr288 hg278
    refine pw h275 rfl (op_append rfl (N24 + 1) 154 (z := .agg #[.int .i64 0, .int .i64 0]) (size := 2) (bytes := 16) Tryz.underlying24 (by kernel_rfl) rfl rfl rfl hr295 rfl hk279 rfl (by kernel_rfl) (by first | omega | (simp only [List.length_nil, List.length_append, List.length_cons, List.length_take, List.length_drop]; omega)) (by first | omega | (simp only [List.length_nil, List.length_append, List.length_cons, List.length_take, List.length_drop]; omega)) (by omega)) ?_; clear h275
    rintro v292 w291 a290 ⟨hr293, hg294⟩ h290
    have hr293' : w291.ownsRow (N24 + 1) 154 2 v292 ((ls ++ [(n224, n247)]).length) ((ls ++ [(n224, n247)]).flatMap memE) := row_push (y := (n224, n247)) hr293 rfl rfl; clear hr293
    have hz296 := hg294.size
    refine pk0 (v := pt N24 1) h290 rfl fun a297 h297 => ?_; clear h290
    have hk303 := hk272.kept hg278 (by simp)
    have hk304 := hk303.kept hg294 (row_ne_lt hr295 (by omega))
    refine pwD h297 rfl (op_store1 rfl rfl rfl (row_one hr293') Tryz.sizeOf24 hk304 rfl) ?_; clear h297
    rintro _ w299 a298 ⟨hk300, hz301, hg302⟩ h298
    have hk300' : Blk w299 N24 26 #[.int .i64 n42, v292, .int .u64 0] := hk300; clear hk300
    have hz305 := hg302.size
    refine pl_nil ?_
    refine co_blockN ?_
    refine co_then ?_
    refine co_reg ?_
    refine pk0 (v := .int .i64 ((i : Nat) : Int)) h298 rfl fun a306 h306 => ?_; clear h298
    refine pk (v := .int .i64 ((i + 1 : Nat) : Int)) h306 rfl (rn_arith' rfl rfl rfl rfl rfl rfl (IntWalk.i64_in _ (by omega)) (by omega)) fun a307 h307 => ?_; clear h306
    refine pk0 (v := .int .i64 ((i + 1 : Nat) : Int)) h307 rfl fun a308 h308 => ?_; clear h307
    refine pl_nil ?_
    refine co_then ?_
    refine ⟨(n63.toNat - (i + 1)), by omega, ?_⟩
    have hR' := ofRows_step hR (by omega) hq227 hq250
    have ho309 := ho253.at (by omega) hg263
    have ho310 := ho309.new hg278
    have ho311 := ho310.row (row_ne_lt hr295 (by omega)) hg294
    have ho312 := ho311.at (by omega) hg302
    have hr313 := row_kept_at hr293' hg302 (row_ne_lt hr293' (by omega))
    have hB314 := hb_new hB100 hg209
    have hB315 := hb_at hB314 hg219 (by omega)
    have hB316 := hb_at hB315 hg231 (by omega)
    have hB317 := hb_at hB316 hg241 (by omega)
    have hB318 := hb_at hB317 hg254 (by omega)
    have hB319 := hb_at hB318 hg263 (by omega)
    have hB320 := hb_new hB319 hg278
    have hB321 := hb_row hB320 hr295 (by omega) hg294
    have hB322 := hb_at hB321 hg302 (by omega)
    have hk323 := hk101.kept hg209 (by simp)
    have hk324 := hk323.kept hg219 (by simp; omega)
    have hk325 := hk324.kept hg231 (by simp; omega)
    have hk326 := hk325.kept hg241 (by simp; omega)
    have hk327 := hk326.kept hg254 (by simp; omega)
    have hk328 := hk327.kept hg263 (by simp; omega)
    have hk329 := hk328.kept hg278 (by simp)
    have hk330 := hk329.kept hg294 (row_ne_lt hr295 (by omega))
    have hk331 := hk330.kept hg302 (by simp; omega)
    exact ⟨i + 1, v292, ls ++ [(n224, n247)], a248, e249, h308.sub ⟨rfl, rfl, rfl, rfl, rfl, trivial⟩, rfl, by omega, by first | rfl | (simp; omega), by first | rfl | exact hR', hk300', ho312, (row_eq hr313 (rfl)), hB322, hk331⟩
set_option maxRecDepth 100000 in
theorem cPut_any (ep : Int) (mv : Value) (ms : List MemT) (fl : Int) (w : World) (hs : SliceOf memE 2 w mv ms) (hmk : ∀ m ∈ ms, memOk m) (he : -9223372036854775808 ≤ ep ∧ ep ≤ 9223372036854775807) (hf : 0 ≤ fl ∧ fl < 18446744073709551616) :
    Calls Tryz.prog 66 #[.agg #[.int .i64 ep, mv, .int .u64 fl]] w fun e w' => e = .returned (.tuple #[.string (putCf ep ms fl), .int .i64 (chkC ep ms)]) ∧ Below w.heap.size w w' := by
 have hcb : chkC ep ms = 0 → ((1 ≤ ep ∧ ep ≤ 1073741824) ∧ ms.length ≤ 4) := fun h => ⟨(chkC_ok h).1, (chkC_ok h).2.1.2⟩
 have hB0 := Below.refl w.heap.size w
 have hl_hs := sl_len hs
 refine co_enter (n := 43) Tryz.func66 rfl rfl rfl [(0, .agg #[.int .i64 ep, mv, .int .u64 fl])] rfl (fun a h0 => ?_)
 refine co_seq ?_
 refine co_reg ?_
 refine pw h0 rfl (op_new (v := fun N => pt N 0) (T := 26) (cs := #[.int .i64 ep, mv, .int .u64 fl]) (by kernel_rfl) (by kernel_rfl) (by kernel_rfl)) ?_; clear h0
 rintro _ w2 a1 ⟨N3, rfl, hN6, hz7, hk5, hg4⟩ h1
 have hz8 := hg4.size
 try dsimp only at h1
 refine pk0 (v := .string (⟨#[]⟩)) h1 rfl fun a9 h9 => ?_; clear h1
 refine pk0 (v := .int .i64 0) h9 rfl fun a10 h10 => ?_; clear h9
 refine pl_nil ?_
 refine co_then ?_
 refine co_seq ?_
 refine co_seq ?_
 refine co_reg ?_
 refine pk (v := .agg #[.int .i64 ep, mv, .int .u64 fl]) h10 rfl (rn_loadN rfl rfl Tryz.underlying26 rfl (by kernel_rfl) hk5.all) fun a11 h11 => ?_; clear h10
 have hB14 := hb_new hB0 hg4
 refine pw h11 rfl (op_call (args := #[.agg #[.int .i64 ep, mv, .int .u64 fl]]) (R := fun res xw => res = .int .i64 (chkC ep ms) ∧ Below w2.heap.size w2 xw) rfl rfl rfl (by kernel_rfl) (by kernel_rfl) (Tryz.call74 _ _) (wcheck_any ep mv ms fl w2 (hs.below hB14) (by assumption) (by first | omega | (simp; done) | (simp; omega)) (by first | omega | (simp; done) | (simp; omega))) (by rintro e x ⟨rfl, hb15⟩; exact ⟨_, rfl, ⟨rfl, hb15⟩⟩)) ?_; clear h11
 rintro _ w13 a12 ⟨rfl, hb15⟩ h12
 have hz16 := hb15.size
 refine pk0 (v := .int .i64 (chkC ep ms)) h12 rfl fun a17 h17 => ?_; clear h12
 refine pl_nil ?_
 refine co_then ?_
 refine co_seq ?_
 refine co_reg ?_
 refine pk0 (v := .int .i64 (chkC ep ms)) h17 rfl fun a18 h18 => ?_; clear h17
 refine pk0 (v := .bool (chkC ep ms != 0)) h18 rfl fun a19 h19 => ?_; clear h18
 refine pl_nil ?_
 refine co_then ?_
 have hB21 := hb_call hB14 hb15
 cases hc20 : (chkC ep ms != 0)
 ·
  rw [hc20] at h19
  have hp22 : ¬ (chkC ep ms ≠ 0) := by first | simpa using hc20 | simpa [and_assoc] using hc20
  clear hc20
  refine co_false h19 rfl ?_
  refine wp_skip ?_
  refine co_then ?_
  refine co_seq ?_
  refine dr_gen (fun x => Below w.heap.size w x ∧ Blk x N3 26 #[.int .i64 ep, mv, .int .u64 fl]) (by kernel_rfl) (fun w23 hg24 => ?_) (fun w23 hg24 => ?_)
  ·
   have hz25 := hg24.size
   have hB26 := hb_new hB21 hg24
   have hk27 := hk5.below hb15
   have hk28 := hk27.kept hg24 (by simp)
   exact ⟨hB26, hk28⟩
  have hz29 := hg24.size
  have hB30 := hb_new hB21 hg24
  have hk31 := hk5.below hb15
  have hk32 := hk31.kept hg24 (by simp)
  refine dk0 1 (v := pt N3 0) h19 rfl rfl ⟨hB30, hk32⟩ fun a33 h33 => ?_; clear h19
  refine dk 2 (v := .int .i64 ep) h33 rfl rfl ⟨hB30, hk32⟩ (fun x hx => (rn_load1 rfl rfl Tryz.isAgg3 (hx.2.cell rfl))) fun a34 h34 => ?_; clear h33
  refine dk0 4 (v := pt N3 1) h34 rfl rfl ⟨hB30, hk32⟩ fun a35 h35 => ?_; clear h34
  refine dk 5 (v := mv) h35 rfl rfl ⟨hB30, hk32⟩ (fun x hx => (rn_load1 rfl rfl Tryz.isAgg24 (hx.2.cell rfl))) fun a36 h36 => ?_; clear h35
  refine dk 6 (v := .int .i64 ((ms.length : Nat) : Int)) h36 rfl rfl ⟨hB30, hk32⟩ (fun x hx => (rn_len rfl rfl Tryz.underlying24 (hs.below hx.1))) fun a37 h37 => ?_; clear h36
  refine d1 0 h37 rfl rfl (op_call (args := #[]) (R := fun res xw => ∃ b : Nat, res = pt b 0 ∧ b = w23.heap.size ∧ OW b [] 0 xw ∧ Below w23.heap.size w23 xw) rfl rfl rfl (by kernel_rfl) (by kernel_rfl) (Tryz.call29 _ _) (ow_new w23) (by rintro e x ⟨b, rfl, h0, h1, h2⟩; exact ⟨_, rfl, b, rfl, h0, h1, h2⟩)) ?_ ?_; clear h37
  ·
   rintro _ w39 ⟨b40, rfl, hN41, ho42, hb43⟩
   have hz44 := hb43.size
   have hl45 := ho42.lt
   have hB46 := hb_call hB30 hb43
   have hk47 := hk32.below hb43
   exact ⟨hB46, hk47⟩
  rintro _ w39 a38 ⟨b40, rfl, hN41, ho42, hb43⟩ h38
  have hz44 := hb43.size
  have hl45 := ho42.lt
  have hB46 := hb_call hB30 hb43
  have hk47 := hk32.below hb43
  refine d1 3 h38 rfl rfl (op_call (args := #[pt b40 0, .int .i64 ep]) (R := fun res xw => res = pt b40 0 ∧ OW b40 (([] : List UInt8) ++ putL ep) (0 + 9) xw ∧ But (Rw w39 b40) w39 xw) rfl rfl rfl (by kernel_rfl) (by kernel_rfl) (Tryz.call30 _ _) (ow_num b40 ([]) 0 ep w39 ho42 (by omega) (by omega) (by omega)) (by rintro e x ⟨rfl, h1, h2⟩; exact ⟨_, rfl, rfl, h1, h2⟩)) ?_ ?_; clear h38
  ·
   rintro _ w49 ⟨rfl, ho50, hx51⟩
   have hz52 := hx51.size
   have hl53 := ho50.lt
   have hB54 := hb_wr hB46 ho42 (by omega) hx51
   have hk55 := blk_wr hk47 ho42 (by decide) (by omega) hx51
   exact ⟨hB54, hk55⟩
  rintro _ w49 a48 ⟨rfl, ho50, hx51⟩ h48
  have hz52 := hx51.size
  have hl53 := ho50.lt
  have hB54 := hb_wr hB46 ho42 (by omega) hx51
  have hk55 := blk_wr hk47 ho42 (by decide) (by omega) hx51
  refine d1 7 h48 rfl rfl (op_call (args := #[pt b40 0, .int .i64 ((ms.length : Nat) : Int)]) (R := fun res xw => res = pt b40 0 ∧ OW b40 ((([] : List UInt8) ++ putL ep) ++ putL ((ms.length : Nat) : Int)) (0 + 9 + 9) xw ∧ But (Rw w49 b40) w49 xw) rfl rfl rfl (by kernel_rfl) (by kernel_rfl) (Tryz.call30 _ _) (ow_num b40 (([] : List UInt8) ++ putL ep) (0 + 9) ((ms.length : Nat) : Int) w49 ho50 (by omega) (by omega) (by omega)) (by rintro e x ⟨rfl, h1, h2⟩; exact ⟨_, rfl, rfl, h1, h2⟩)) ?_ ?_; clear h48
  ·
   rintro _ w57 ⟨rfl, ho58, hx59⟩
   have hz60 := hx59.size
   have hl61 := ho58.lt
   have hB62 := hb_wr hB54 ho50 (by omega) hx59
   have hk63 := blk_wr hk55 ho50 (by decide) (by omega) hx59
   exact ⟨hB62, hk63⟩
  rintro _ w57 a56 ⟨rfl, ho58, hx59⟩ h56
  have hz60 := hx59.size
  have hl61 := ho58.lt
  have hB62 := hb_wr hB54 ho50 (by omega) hx59
  have hk63 := blk_wr hk55 ho50 (by decide) (by omega) hx59
  refine dk0 8 (v := pt b40 0) h56 rfl rfl ⟨hB62, hk63⟩ fun a64 h64 => ?_; clear h56
  refine dr_done (by kernel_rfl) ?_
  refine co_then ?_
  refine co_seq ?_
  refine co_seq ?_
  refine co_reg ?_
  refine pk0 (v := pt N3 1) h64 rfl fun a65 h65 => ?_; clear h64
  refine pk (v := mv) h65 rfl (rn_load1 rfl rfl Tryz.isAgg24 (hk63.cell rfl)) fun a66 h66 => ?_; clear h65
  refine pk (v := .int .i64 ((ms.length : Nat) : Int)) h66 rfl (rn_len rfl rfl Tryz.underlying24 (hs.below hB62)) fun a67 h67 => ?_; clear h66
  refine pk0 (v := .int .i64 0) h67 rfl fun a68 h68 => ?_; clear h67
  refine pl_nil ?_
  refine co_then ?_
  refine wp_block ?_
  have hck := (chkC_ok (ep := ep) (ms := ms) (by omega)).2.2.2
  have h69 : Slots 43 [(1, pt N3 0), (2, .string (⟨#[]⟩)), (3, .int .i64 0), (5, pt b40 0), (22, mv), (23, .int .i64 ((ms.length : Nat) : Int)), (24, .int .i64 0)] _ := h68.sub ⟨rfl, rfl, rfl, rfl, rfl, rfl, rfl, trivial⟩; clear h68
  refine co_loop (fun mm a x => ∃ (i : Nat), Slots 43 [(1, pt N3 0), (2, .string (⟨#[]⟩)), (3, .int .i64 0), (5, pt b40 0), (22, mv), (23, .int .i64 ((ms.length : Nat) : Int)), (24, .int .i64 ((i : Nat) : Int))] a ∧ mm = ms.length - i ∧ (i ≤ ms.length) ∧ OW b40 (putL ep ++ putL ((ms.length : Nat) : Int) ++ putM (ms.take i)) (18 + i * 18) x ∧ Below w.heap.size w x ∧ Blk x N3 26 #[.int .i64 ep, mv, .int .u64 fl]) (ms.length - 0) ?_ ?_
  · exact ⟨0, h69.sub ⟨rfl, rfl, rfl, rfl, rfl, rfl, (slot_eq rfl (congrArg (Value.int .i64) (by first | rfl | omega))), trivial⟩, rfl, by omega, (ho58.eq (by first | (simp [putM]; done) | (rw [takeM_at (by assumption)]; simp [putM])) (by first | omega | (simp; done) | (simp; omega))), hB62, hk63⟩
  · rintro k70 a71 w72 ⟨i, h71, rfl, hi73, hf74, hB75, hk76⟩
    have hz77 := hB75.size
    have hl78 := hk76.lt
    have hl79 := hf74.lt
    refine co_seq ?_
    refine co_reg ?_
    refine pk0 (v := .bool (decide (((i : Nat) : Int) < ((ms.length : Nat) : Int)))) h71 rfl fun a80 h80 => ?_; clear h71
    refine pl_nil ?_
    refine co_then ?_
    refine co_seq ?_
    cases hc81 : (decide (((i : Nat) : Int) < ((ms.length : Nat) : Int)))
    ·
     rw [hc81] at h80
     have hp82 : ¬ (((i : Nat) : Int) < ((ms.length : Nat) : Int)) := of_decide_eq_false hc81
     clear hc81
     refine co_false h80 rfl ?_
     refine wp_exit ?_
     refine co_thenX ?_
     refine co_thenX ?_
     refine co_blockX ?_
     refine co_then ?_
     refine co_seq ?_
     refine co_reg ?_
     refine pk0 (v := pt b40 0) h80 rfl fun a83 h83 => ?_; clear h80
     refine pk0 (v := pt N3 2) h83 rfl fun a84 h84 => ?_; clear h83
     refine pk (v := .int .u64 fl) h84 rfl (rn_load1 rfl rfl Tryz.isAgg22 (hk76.cell rfl)) fun a85 h85 => ?_; clear h84
     refine pw h85 rfl (op_call (args := #[pt b40 0, .int .u64 fl]) (R := fun res xw => res = pt b40 0 ∧ OW b40 ((putL ep ++ putL ((ms.length : Nat) : Int) ++ putM (ms.take i)) ++ putL fl) (18 + i * 18 + 9) xw ∧ But (Rw w72 b40) w72 xw) rfl rfl rfl (by kernel_rfl) (by kernel_rfl) (Tryz.call69 _ _) (ow_big b40 (putL ep ++ putL ((ms.length : Nat) : Int) ++ putM (ms.take i)) (18 + i * 18) fl w72 hf74 (by omega) (by omega) (by omega)) (by rintro e x ⟨rfl, h1, h2⟩; exact ⟨_, rfl, rfl, h1, h2⟩)) ?_; clear h85
     rintro _ w87 a86 ⟨rfl, ho88, hx89⟩ h86
     have hz90 := hx89.size
     have hl91 := ho88.lt
     refine pw h86 rfl (op_call (args := #[pt b40 0]) (R := fun res xw => res = .tuple #[.string (⟨((putL ep ++ putL ((ms.length : Nat) : Int) ++ putM (ms.take i)) ++ putL fl).toArray⟩), .int .i64 0] ∧ Below w87.heap.size w87 xw) rfl rfl rfl (by kernel_rfl) (by kernel_rfl) (Tryz.call33 _ _) (ow_done b40 ((putL ep ++ putL ((ms.length : Nat) : Int) ++ putM (ms.take i)) ++ putL fl) (18 + i * 18 + 9) w87 ho88) (by rintro e x ⟨rfl, h2⟩; exact ⟨_, rfl, rfl, h2⟩)) ?_; clear h86
     rintro _ w93 a92 ⟨rfl, hb94⟩ h92
     have hz95 := hb94.size
     refine pk0 (v := .string (⟨((putL ep ++ putL ((ms.length : Nat) : Int) ++ putM (ms.take i)) ++ putL fl).toArray⟩)) h92 rfl fun a96 h96 => ?_; clear h92
     refine pk0 (v := .int .i64 0) h96 rfl fun a97 h97 => ?_; clear h96
     refine pk0 (v := .string (⟨((putL ep ++ putL ((ms.length : Nat) : Int) ++ putM (ms.take i)) ++ putL fl).toArray⟩)) h97 rfl fun a98 h98 => ?_; clear h97
     refine pk0 (v := .int .i64 0) h98 rfl fun a99 h99 => ?_; clear h98
     refine pl_nil ?_
     refine co_then ?_
     refine wp_ret ?_
     refine co_ret2 h99 rfl rfl rfl ?_
     have hB100 := hb_wr hB75 hf74 (by omega) hx89
     have hB101 := hb_call hB100 hb94
     exact ⟨by rw [putCf_ok (by omega), show chkC ep ms = 0 by omega, List.take_of_length_le (show ms.length ≤ i by omega)]; simp [putC], hB101⟩
    ·
     rw [hc81] at h80
     have hp102 : ((i : Nat) : Int) < ((ms.length : Nat) : Int) := of_decide_eq_true hc81
     clear hc81
     refine co_true h80 rfl ?_
     refine wp_skip ?_
     refine co_then ?_
     refine co_seq ?_
     refine wp_block ?_
     refine co_seq ?_
     refine co_reg ?_
     obtain ⟨y103, hy103⟩ : ∃ z, ms[i]? = some z := ⟨_, List.getElem?_eq_getElem (by first | omega | (simp; done) | (simp; omega))⟩
     have oky103 := hck _ (List.mem_of_getElem? hy103)
     have k104 : (0 ≤ y103.1 ∧ y103.1 < 4) ∧ (1 ≤ y103.2 ∧ y103.2 ≤ 1073741824) := oky103
     refine pk (v := pt (blkOf mv) (offOf mv + i * 2)) h80 rfl (rn_index rfl rfl rfl Tryz.underlying24 Tryz.sizeOf154 (hs.below hB75) (by omega) (by first | omega | (simp; done) | (simp; omega))) fun a105 h105 => ?_; clear h80
     refine pk (v := .agg #[.int .i64 y103.1, .int .i64 y103.2]) h105 rfl (rn_loadN rfl rfl Tryz.underlying154 rfl (by kernel_rfl) (sl_at (hs.below hB75) hy103)) fun a106 h106 => ?_; clear h105
     refine pw h106 rfl (op_new (v := fun N => pt N 0) (T := 154) (cs := #[.int .i64 0, .int .i64 0]) (by kernel_rfl) (by kernel_rfl) (by kernel_rfl)) ?_; clear h106
     rintro _ w108 a107 ⟨N109, rfl, hN112, hz113, hk111, hg110⟩ h107
     have hz114 := hg110.size
     try dsimp only at h107
     refine pwD h107 rfl (op_storeN rfl rfl rfl (by kernel_rfl) (by kernel_rfl) hk111 rfl) ?_; clear h107
     rintro _ w116 a115 ⟨hk117, hz118, hg119⟩ h115
     have hk117' : Blk w116 N109 154 #[.int .i64 y103.1, .int .i64 y103.2] := hk117; clear hk117
     have hz120 := hg119.size
     refine pl_nil ?_
     refine co_then ?_
     refine dr_gen (fun x => Below w.heap.size w x ∧ Blk x N109 154 #[.int .i64 y103.1, .int .i64 y103.2]) (by kernel_rfl) (fun w121 hg122 => ?_) (fun w121 hg122 => ?_)
     ·
      have hz123 := hg122.size
      have hB124 := hb_new hB75 hg110
      have hB125 := hb_at hB124 hg119 (by omega)
      have hB126 := hb_new hB125 hg122
      have hk127 := hk117'.kept hg122 (by simp)
      exact ⟨hB126, hk127⟩
     have hz128 := hg122.size
     have hB129 := hb_new hB75 hg110
     have hB130 := hb_at hB129 hg119 (by omega)
     have hB131 := hb_new hB130 hg122
     have hk132 := hk117'.kept hg122 (by simp)
     refine dk0 0 (v := pt b40 0) h115 rfl rfl ⟨hB131, hk132⟩ fun a133 h133 => ?_; clear h115
     refine dk0 1 (v := pt N109 0) h133 rfl rfl ⟨hB131, hk132⟩ fun a134 h134 => ?_; clear h133
     refine dk 2 (v := .int .i64 y103.1) h134 rfl rfl ⟨hB131, hk132⟩ (fun x hx => (rn_load1 rfl rfl Tryz.isAgg3 (hx.2.cell rfl))) fun a135 h135 => ?_; clear h134
     refine dk0 4 (v := pt N109 1) h135 rfl rfl ⟨hB131, hk132⟩ fun a136 h136 => ?_; clear h135
     refine dk 5 (v := .int .i64 y103.2) h136 rfl rfl ⟨hB131, hk132⟩ (fun x hx => (rn_load1 rfl rfl Tryz.isAgg3 (hx.2.cell rfl))) fun a137 h137 => ?_; clear h136
     have ho142 := hf74.new hg110
     have ho143 := ho142.at hk111 (by decide) (by omega) hg119
     have ho144 := ho143.new hg122
     refine d1 3 h137 rfl rfl (op_call (args := #[pt b40 0, .int .i64 y103.1]) (R := fun res xw => res = pt b40 0 ∧ OW b40 ((putL ep ++ putL ((ms.length : Nat) : Int) ++ putM (ms.take i)) ++ putL y103.1) (18 + i * 18 + 9) xw ∧ But (Rw w121 b40) w121 xw) rfl rfl rfl (by kernel_rfl) (by kernel_rfl) (Tryz.call30 _ _) (ow_num b40 (putL ep ++ putL ((ms.length : Nat) : Int) ++ putM (ms.take i)) (18 + i * 18) y103.1 w121 ho144 (by omega) (by omega) (by omega)) (by rintro e x ⟨rfl, h1, h2⟩; exact ⟨_, rfl, rfl, h1, h2⟩)) ?_ ?_; clear h137
     ·
      rintro _ w139 ⟨rfl, ho140, hx141⟩
      have hz145 := hx141.size
      have hl146 := ho140.lt
      have hB147 := hb_wr hB131 ho144 (by omega) hx141
      have hk148 := blk_wr hk132 ho144 (by decide) (by omega) hx141
      exact ⟨hB147, hk148⟩
     rintro _ w139 a138 ⟨rfl, ho140, hx141⟩ h138
     have hz145 := hx141.size
     have hl146 := ho140.lt
     have hB147 := hb_wr hB131 ho144 (by omega) hx141
     have hk148 := blk_wr hk132 ho144 (by decide) (by omega) hx141
     refine d1 6 h138 rfl rfl (op_call (args := #[pt b40 0, .int .i64 y103.2]) (R := fun res xw => res = pt b40 0 ∧ OW b40 (((putL ep ++ putL ((ms.length : Nat) : Int) ++ putM (ms.take i)) ++ putL y103.1) ++ putL y103.2) (18 + i * 18 + 9 + 9) xw ∧ But (Rw w139 b40) w139 xw) rfl rfl rfl (by kernel_rfl) (by kernel_rfl) (Tryz.call30 _ _) (ow_num b40 ((putL ep ++ putL ((ms.length : Nat) : Int) ++ putM (ms.take i)) ++ putL y103.1) (18 + i * 18 + 9) y103.2 w139 ho140 (by omega) (by omega) (by omega)) (by rintro e x ⟨rfl, h1, h2⟩; exact ⟨_, rfl, rfl, h1, h2⟩)) ?_ ?_; clear h138
     ·
      rintro _ w150 ⟨rfl, ho151, hx152⟩
      have hz153 := hx152.size
      have hl154 := ho151.lt
      have hB155 := hb_wr hB147 ho140 (by omega) hx152
      have hk156 := blk_wr hk148 ho140 (by decide) (by omega) hx152
      exact ⟨hB155, hk156⟩
     rintro _ w150 a149 ⟨rfl, ho151, hx152⟩ h149
     have hz153 := hx152.size
     have hl154 := ho151.lt
     refine dr_done (by kernel_rfl) ?_
     refine co_blockN ?_
     refine co_then ?_
     refine co_reg ?_
     refine pk (v := .int .i64 ((i + 1 : Nat) : Int)) h149 rfl (rn_arith' rfl rfl rfl rfl rfl rfl (IntWalk.i64_in _ (by omega)) (by omega)) fun a155 h155 => ?_; clear h149
     refine pk0 (v := .int .i64 ((i + 1 : Nat) : Int)) h155 rfl fun a156 h156 => ?_; clear h155
     refine pl_nil ?_
     refine co_then ?_
     refine ⟨(ms.length - (i + 1)), by omega, ?_⟩
     have hB157 := hb_wr hB147 ho140 (by omega) hx152
     have hk158 := hk76.kept hg110 (by simp)
     have hk159 := hk158.kept hg119 (by simp; omega)
     have hk160 := hk159.kept hg122 (by simp)
     have hk161 := blk_wr hk160 ho144 (by decide) (by omega) hx141
     have hk162 := blk_wr hk161 ho140 (by decide) (by omega) hx152
     exact ⟨i + 1, h156.sub ⟨rfl, rfl, rfl, rfl, rfl, rfl, rfl, trivial⟩, rfl, by omega, (ho151.eq (by first | (simp [putM]; done) | (rw [takeM_at (by assumption)]; simp [putM])) (by first | omega | (simp; done) | (simp; omega))), hB157, hk162⟩
 ·
  rw [hc20] at h19
  have hp163 : chkC ep ms ≠ 0 := by first | simpa using hc20 | simpa [and_assoc] using hc20
  clear hc20
  refine co_true h19 rfl ?_
  refine co_seq ?_
  refine co_reg ?_
  refine pk0 (v := .int .i64 (chkC ep ms)) h19 rfl fun a164 h164 => ?_; clear h19
  refine pk0 (v := .string (⟨#[]⟩)) h164 rfl fun a165 h165 => ?_; clear h164
  refine pk0 (v := .int .i64 (chkC ep ms)) h165 rfl fun a166 h166 => ?_; clear h165
  refine pl_nil ?_
  refine co_then ?_
  refine wp_ret ?_
  refine co_thenR ?_
  refine co_ret2 h166 rfl rfl rfl ?_
  exact ⟨by rw [putCf_err (by assumption)], hB21⟩
end Go.Proofs.YteioaaegooebpaaGreat
