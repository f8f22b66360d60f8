/- Both ethers beside one another; packets compared. Conditions: none. -/
import Derived.Test.YtjfnpedlegplnaaEthS
import Derived.Laws.StructEq
namespace Go.Proofs.Ytjfnpedlegplnaa
open Go.RowKit Go.PlainAid Go.ChangeShapes Go.WideShapes Go.Deep

theorem eq_pkt (a b : PktT) (w : World) : (binOp .eql 110 (pktV a) (pktV b)).run Try.prog w = .ok (.bool (decide (a = b))) w := by
  have u := Try.underlying3
  have us := Try.underlying9
  have hS : Try.prog.underlying 110 = some (.struct (Try.prog.fieldsOf 110)) := by kernel_rfl
  have hp : Try.prog.stoodInHeld 110 = false := by kernel_rfl
  obtain ⟨a1, a2, a3⟩ := a
  obtain ⟨b1, b2, b3⟩ := b
  have hst : (a3.toList == b3.toList) = decide (a3 = b3) := by
    rw [Go.ByteArray.toList_eq, Go.ByteArray.toList_eq]
    by_cases h : a3 = b3
    · subst h; simp
    · rw [decide_eq_false h, beq_eq_false_iff_ne]
      intro e; exact h (by apply ByteArray.ext; exact Array.toList_inj.1 e)
  unfold pktV
  rw [run_eql_struct, show (10000 : Nat) = 9999 + 1 from rfl, run_equalIn_agg w 9999 110 _ _ hS hp]
  simp only [Program.fieldsOf, Try.underlying110]
  go_simp
  by_cases h1 : a1 = b1 <;> by_cases h2 : a2 = b2 <;> by_cases h3 : a3 = b3 <;> simp_all

theorem own_kept_but {S : Nat → Prop} {B : Nat} {e : TypeId} {k : Nat} {v : Value} {n : Nat} {xs : List Value} {w w' : World} (h : w.ownsRow B e k v n xs) (hb : But S w w') (hs : ∀ g, v.ownBlock = some g → ¬ S g) : w'.ownsRow B e k v n xs := by
  obtain ⟨h1, h2⟩ := h
  refine ⟨h1, ?_⟩
  rcases h2 with h2 | ⟨g, cap, cur, hv, hg, hh, r⟩
  · exact Or.inl h2
  · exact Or.inr ⟨g, cap, cur, hv, hg, by rw [hb.block g (Array.getElem?_eq_some_iff.1 hh).1 (hs g (by rw [hv]; rfl))]; exact hh, r⟩
/-- Both, apart from one another, behind what was there below B. -/
structure Two (B : Nat) (w0 w : World) (b1 : Nat) (v1 : Value) (l1 : List PktT) (n1 : Int) (b2 : Nat) (v2 : Value) (l2 : List PktT) (n2 : Int) : Prop where
  e : Eth w b1 v1 l1 n1
  r : REth w b2 v2 l2 n2
  ne : b1 ≠ b2
  a1 : v1.ownBlock ≠ some b2
  a2 : v2.ownBlock ≠ some b1
  a3 : ∀ g, v1.ownBlock = some g → v2.ownBlock ≠ some g
  h1 : B ≤ b1
  h2 : B ≤ b2
  bel : Below B w0 w
  sz : B ≤ w.heap.size
section
variable {B : Nat} {w0 w : World} {b1 b2 : Nat} {v1 v2 : Value} {l1 l2 : List PktT} {n1 n2 : Int}
theorem Two.kept {w' : World} (h : Two B w0 w b1 v1 l1 n1 b2 v2 l2 n2) (hb : Below w.heap.size w w') : Two B w0 w' b1 v1 l1 n1 b2 v2 l2 n2 :=
  ⟨h.e.kept hb, h.r.kept hb, h.ne, h.a1, h.a2, h.a3, h.h1, h.h2, h.bel.trans (hb.mono h.sz), Nat.le_trans h.sz hb.size⟩
theorem Two.stepN {w' : World} {l1' : List PktT} {n1' : Int} (h : Two B w0 w b1 v1 l1 n1 b2 v2 l2 n2) (hp : EthPost b1 v1 w l1' n1' w') : ∃ v1', Two B w0 w' b1 v1' l1' n1' b2 v2 l2 n2 := by
  obtain ⟨v', he, hb, ho⟩ := hp
  refine ⟨v', he, ⟨?_, ?_⟩, h.ne, fun e => ?_, h.a2, fun g hg => ?_, h.h1, h.h2, ?_, Nat.le_trans h.sz hb.size⟩
  · rw [hb.block b2 h.r.lt (fun hs => by
      rcases hs with hs | hs
      · exact h.ne hs.symm
      · exact h.a1 hs)]
    exact h.r.blk
  · refine own_kept_but h.r.row hb (fun g hg hs => ?_)
    rcases hs with hs | hs
    · subst hs; exact h.a2 hg
    · exact h.a3 g hs hg
  · rcases ho _ e with k | k
    · exact h.a1 k
    · have := h.r.lt; omega
  · rcases ho g hg with k | k
    · exact h.a3 g k
    · intro e; have := (h.r.row.lt g e).2; omega
  · refine below_but h.bel hb h.sz (fun i _ hs => ?_)
    rcases hs with hs | hs
    · rw [hs]; exact h.h1
    · have := (h.e.row.lt i hs).1; have := h.h1; omega
theorem Two.stepX {w' : World} {l2' : List PktT} {n2' : Int} (h : Two B w0 w b1 v1 l1 n1 b2 v2 l2 n2) (hp : RPost b2 v2 w l2' n2' w') : ∃ v2', Two B w0 w' b1 v1 l1 n1 b2 v2' l2' n2' := by
  obtain ⟨v', he, hb, ho⟩ := hp
  refine ⟨v', ⟨?_, ?_⟩, he, h.ne, h.a1, fun e => ?_, fun g hg e => ?_, h.h1, h.h2, ?_, Nat.le_trans h.sz hb.size⟩
  · rw [hb.block b1 h.e.lt (fun hs => h.ne hs)]; exact h.e.blk
  · exact own_kept_but h.e.row hb (fun g hg hs => h.a1 (by rw [hg, hs]))
  · rcases ho _ e with k | k
    · exact h.a2 k
    · have := h.e.lt; omega
  · rcases ho g e with k | k
    · exact h.a3 g hg k
    · have := (h.e.row.lt g hg).2; omega
  · exact below_but h.bel hb h.sz (fun i _ hs => by rw [hs]; exact h.h2)
theorem Two.far {w' : World} {k : Nat} {p : PktT} (h : Two B w0 w b1 v1 l1 n1 b2 v2 l2 n2) (hp : RPost b2 v2 w l2 n2 w') (hb : Box3 w k p) (hk : k ≠ b2) : Box3 w' k p := by
  obtain ⟨v', he, hb', ho⟩ := hp
  have hlt := (Array.getElem?_eq_some_iff.1 (show w.heap[k]? = _ from hb)).1
  unfold Box3; rw [hb'.block k hlt hk]; exact hb
end
theorem send_small {p : PktT} {l : List PktT} (h : l.length < 400) : (sendR p l 0).2.2 = 0 ∧ (sendR p l 0).2.1.length ≤ l.length + 1 := by
  unfold sendR
  split
  · rw [if_neg (by omega)]; simp
  · simp
theorem perm_out {l m : List PktT} {a c : Nat} {p : PktT} (h : l.Perm m) (ha : a < l.length) (hc : c < m.length) (h1 : l[a] = p) (h2 : m[c] = p) : (l.take a ++ l.drop (a + 1)).Perm (m.take c ++ m.drop (c + 1)) := by
  have e1 : l = l.take a ++ p :: l.drop (a + 1) := by rw [← h1, ← List.drop_eq_getElem_cons ha, List.take_append_drop]
  have e2 : m = m.take c ++ p :: m.drop (c + 1) := by rw [← h2, ← List.drop_eq_getElem_cons hc, List.take_append_drop]
  have p1 : l.Perm (p :: (l.take a ++ l.drop (a + 1))) := by
    have := @List.perm_middle _ p (l.take a) (l.drop (a + 1)); rw [← e1] at this; exact this
  have p2 : m.Perm (p :: (m.take c ++ m.drop (c + 1))) := by
    have := @List.perm_middle _ p (m.take c) (m.drop (c + 1)); rw [← e2] at this; exact this
  exact (p1.symm.trans (h.trans p2)).cons_inv
section
variable {H : Type} {enc : TypeId × Value → H} {w : World} {base : Nat} {spare : Nat → Bool} {held : Bool}
theorem open_pkts {fuel : Nat} {cs : List Value} {x : DataW H × List MemPlace} (h : DataW.trod enc Try.prog w base spare held fuel 106 cs = some x) :
    ∃ (l : List PktT) (v : Value), cs = [v] ∧ SliceOf pktE 3 w v l ∧ ∀ p ∈ l, pktOk p :=
  open_rows pktE 3 pktOk Try.underlying106 (by kernel_rfl) (by omega) elem_pkt h
theorem open_u8s {fuel : Nat} {cs : List Value} {x : DataW H × List MemPlace} (h : DataW.trod enc Try.prog w base spare held fuel 127 cs = some x) :
    ∃ (l : List Int) (v : Value), cs = [v] ∧ SliceOf (intE .u8) 1 w v l ∧ ∀ n ∈ l, (Lit.int .u8 n).wf = true :=
  open_rows (intE .u8) 1 _ Try.underlying127 (by kernel_rfl) (by omega) (fun n cs x h => by
    obtain ⟨a, e, _, hw⟩ := DataW.trod_int Try.underlying5 h
    exact ⟨a, e, hw⟩) h
end
end Go.Proofs.Ytjfnpedlegplnaa
