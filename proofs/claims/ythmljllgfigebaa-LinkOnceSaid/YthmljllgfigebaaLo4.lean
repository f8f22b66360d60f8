/- Put together: PrI, PrT. Conditions: as each says. -/
import Derived.Test.YthmljllgfigebaaPrHLo
/- catenalaw22: what a step makes. Conditions: none. -/
namespace Go.Proofs.Ythmljllgfigebaa
open Go.RowKit Go.PlainAid
set_option linter.unusedVariables false
set_option linter.unusedSimpArgs false


section
variable {P : Program} {n : Nat} {m : List (Nat × Value)} {o : Oper} {w : World}
theorem rn_remP {T T' : TypeId} {x y : Operand} {k : IntKind} {i j z : Int} (ho : o.op = .binOp .rem T x y T') (hx : ev m x = some (.int k i)) (hy : ev m y = some (.int k j)) (hj : j ≠ 0) (hcl : binOp .rem T (.int k i) (.int k j) = Op.intDiv .rem k i j) (hz : i.tmod j = z) : (execOp (lk m) o).run P w = .ok (.value (.int k z)) w := by
  unfold execOp
  have hg : (eqGuard .rem T x y (.int k i) (.int k j)).run P w = .ok () w := by unfold eqGuard; rfl
  subst hz
  simp only [ho, lk_ev hx, lk_ev hy, Sem.run_bind, hg, hcl, Op.intDiv, hj, if_false, Result.andThen_ok]
  rfl
end
section
variable {NA NB : Nat} {SA SB : Nat → Prop} {wv tv : Value} {S S' D : Nat → Prop} {w x : World} {b : Nat} {P : PrT}
theorem PrQ.gr {row : Option Nat} (h : PrQ NA NB SA SB wv tv S w b P) (hg : w.grownBy x row) (hr : ∀ k, row = some k → ¬ S k) : PrQ NA NB SA SB wv tv S x b P := h.keep fun q hq => hg.block q (h.ofS q hq) (fun e => hr q e.symm hq)
theorem PrQ.but (h : PrQ NA NB SA SB wv tv S w b P) (hb : But D w x) (ha : ∀ q, S q → D q → False) : PrQ NA NB SA SB wv tv S x b P := h.keep fun q hq => hb.block q (h.ofS q hq) (fun hd => ha q hq hd)
theorem PrQ.o (h : PrQ NA NB SA SB wv tv S w b P) : PrO S w b P := ⟨_, _, _, _, _, _, h⟩
theorem PrQ.sl (h : PrQ NA NB SA SB wv tv S w b P) : SliceOf segE 8 w wv P.W := row_sl h.way segE_len
theorem PrQ.cell4 (h : PrQ NA NB SA SB wv tv S w b P) : w.cell? ⟨b, 4, none⟩ = some wv := h.blk.cell (k := 4) rfl
end
def sendP (P : PrT) (sd : Int) : PrT := if sd = 0 then { P with A := (sendT P.A (numT (P.s0 + 1))).2, s0 := if (sendT P.A (numT (P.s0 + 1))).1 = 0 then P.s0 + 1 else P.s0 } else { P with B := (sendT P.B (numT (P.s1 + 1))).2, s1 := if (sendT P.B (numT (P.s1 + 1))).1 = 0 then P.s1 + 1 else P.s1 }
def anewP (P : PrT) (sd : Int) : PrT := if sd = 0 then { P with A := newLn (P.b0 + 1), b0 := P.b0 + 1, t0 := 0 } else { P with B := newLn (P.b1 + 1), b1 := P.b1 + 1, t1 := 0 }
def dupP (P : PrT) (y : SegT) (d : Int) : PrT := { P with W := P.W ++ [y], T := P.T ++ [d] }
/-- What a step makes of it. -/
inductive StepR (K : Int) (P : PrT) : PrT → Prop
  | none : StepR K P P
  | send (sd : Int) : sd = 0 ∨ sd = 1 → StepR K P (sendP P sd)
  | out (sd : Int) (g : Bool) (k : Nat) : sd = 0 ∨ sd = 1 → (outP P sd g k).W.length ≤ 200 → k ≤ (if sd = 0 then outT P.A g else outT P.B g).length → StepR K P (outP P sd g k)
  | anew (sd : Int) : sd = 0 ∨ sd = 1 → (6 < K ∨ K < 0) → StepR K P (anewP P sd)
  | gone (i : Nat) : i < P.W.length → StepR K P (goneP P i)
  | dup (i : Nat) (y : SegT) (d : Int) : P.W.length < 200 → P.W[i]? = some y → P.T[i]? = some d → StepR K P (dupP P y d)
  | come (i : Nat) (y : SegT) (d : Int) : P.W[i]? = some y → P.T[i]? = some d → i < P.W.length → StepR K P (goneP (comeP P d y) i)
/-- What holds ahead of a step. -/
structure StepH (P : PrT) : Prop where
  lW : P.W.length ≤ 200
  lT : P.T.length = P.W.length
  bt : (1 ≤ P.b0 ∧ P.b0 ≤ 1000000) ∧ 1 ≤ P.b1 ∧ P.b1 ≤ 1000000
  st : (0 ≤ P.s0 ∧ P.s0 ≤ 50000) ∧ 0 ≤ P.s1 ∧ P.s1 ≤ 50000
  sd : ∀ d ∈ P.T, d = 0 ∨ d = 1
  cm : ∀ (i : Nat) (y : SegT) (d : Int), P.W[i]? = some y → P.T[i]? = some d → ((d = 0 → (inT P.A y).2.1 = 0) ∧ (¬ d = 0 → (inT P.B y).2.1 = 0)) ∧ (d = 0 → ∀ m ∈ (inT P.A y).1, P.t0 < valT m ∧ valT m ≤ P.s1) ∧ (¬ d = 0 → ∀ m ∈ (inT P.B y).1, P.t1 < valT m ∧ valT m ≤ P.s0)

end Go.Proofs.Ythmljllgfigebaa

/- catenalaw22: whatever a step makes, what holds goes on to hold. Conditions: none. -/
namespace Go.Proofs.Ythmljllgfigebaa
open Go.RowKit Go.PlainAid Go.Shelf
set_option linter.unusedVariables false
set_option linter.unusedSimpArgs false

/-- What is on the way to a side. -/
def wayTo (W : List SegT) (T : List Int) (d : Int) : List SegT := ((W.zip T).filter (fun p => decide (p.2 = d))).map Prod.fst
theorem mem_way {W : List SegT} {T : List Int} {d : Int} {s : SegT} : s ∈ wayTo W T d ↔ ∃ i : Nat, W[i]? = some s ∧ T[i]? = some d := by
  unfold wayTo
  simp only [List.mem_map, List.mem_filter, decide_eq_true_eq]
  constructor
  · rintro ⟨⟨a, c⟩, ⟨h1, h2⟩, h3⟩
    obtain ⟨i, hi⟩ := List.mem_iff_getElem?.1 h1
    rw [List.getElem?_zip_eq_some] at hi
    exact ⟨i, by rw [hi.1]; exact congrArg some h3, by rw [hi.2]; exact congrArg some h2⟩
  · rintro ⟨i, h1, h2⟩
    exact ⟨(s, d), ⟨List.mem_iff_getElem?.2 ⟨i, List.getElem?_zip_eq_some.2 ⟨h1, h2⟩⟩, rfl⟩, rfl⟩
theorem way_app {W X : List SegT} {T Y : List Int} {d : Int} {s : SegT} (hl : T.length = W.length) (h : s ∈ wayTo (W ++ X) (T ++ Y) d) : s ∈ wayTo W T d ∨ ∃ j : Nat, X[j]? = some s ∧ Y[j]? = some d := by
  obtain ⟨i, h1, h2⟩ := mem_way.1 h
  by_cases hi : i < W.length
  · rw [List.getElem?_append_left hi] at h1
    rw [List.getElem?_append_left (by omega)] at h2
    exact .inl (mem_way.2 ⟨i, h1, h2⟩)
  · rw [List.getElem?_append_right (by omega)] at h1 h2
    rw [hl] at h2
    exact .inr ⟨_, h1, h2⟩
theorem way_gone {W : List SegT} {T : List Int} {d : Int} {s : SegT} {i : Nat} (hl : T.length = W.length) (hi : i < W.length) (h : s ∈ wayTo (W.take i ++ W.drop (i + 1)) (T.take i ++ T.drop (i + 1)) d) : s ∈ wayTo W T d := by
  obtain ⟨j, h1, h2⟩ := mem_way.1 h
  by_cases hj : j < i
  · rw [List.getElem?_append_left (by rw [List.length_take]; omega), List.getElem?_take_of_lt hj] at h1
    rw [List.getElem?_append_left (by rw [List.length_take]; omega), List.getElem?_take_of_lt hj] at h2
    exact mem_way.2 ⟨j, h1, h2⟩
  · rw [List.getElem?_append_right (by rw [List.length_take]; omega), List.getElem?_drop] at h1
    rw [List.getElem?_append_right (by rw [List.length_take]; omega), List.getElem?_drop] at h2
    rw [List.length_take] at h1 h2
    rw [show i + 1 + (j - min i W.length) = j + 1 by omega] at h1
    rw [show i + 1 + (j - min i T.length) = j + 1 by omega] at h2
    exact mem_way.2 ⟨j + 1, h1, h2⟩
theorem outT_form {L : LnT} (g : Bool) : ∀ s ∈ outT L g, OutF L s ∧ s.ast = L.in0 ∧ s.asq = L.next ∧ L.first ≤ s.seq ∧ s.seq ≤ L.first + L.q.length ∧ (s.has = true → s.seq < L.first + L.q.length) := by
  intro s hs
  unfold outT segsL at hs
  split at hs
  · split at hs
    · simp at hs; subst hs
      exact ⟨⟨rfl, rfl, rfl, fun h => by cases h⟩, rfl, rfl, by show L.first ≤ L.first; omega, by show L.first ≤ _; omega, fun h => by cases h⟩
    · simp at hs
  · unfold outsL eachL at hs
    simp only [List.mem_map, List.mem_range'_1] at hs
    obtain ⟨p, ⟨i, hi, rfl⟩, rfl⟩ := hs
    have hle := L.to_le
    have hl : i < L.q.length := by omega
    have hb : L.q[i]? = some (L.q.getD i ⟨#[]⟩) := by rw [List.getD_eq_getElem?_getD, List.getElem?_eq_getElem hl]; rfl
    exact ⟨⟨rfl, rfl, rfl, fun _ => ⟨i, hb, rfl⟩⟩, rfl, rfl, by show L.first ≤ L.first + (i : Int); omega, by show L.first + (i : Int) ≤ _; omega, fun _ => by show L.first + (i : Int) < _; omega⟩
/-- Bounds of a link, of a segment. -/
structure LnB (L : LnT) (N : Int) : Prop where
  q : L.first + L.q.length ≤ N
  i : L.in0 ≤ N + 2
  n : L.next ≤ N
structure SgB (s : SegT) (N : Int) : Prop where
  fb : 1 ≤ s.boot ∧ s.boot ≤ N + 1
  fs : 0 ≤ s.stream ∧ s.stream ≤ N + 2
  fq : 0 ≤ s.seq ∧ s.seq ≤ N ∧ (s.has = true → s.seq < N)
  fa : 0 ≤ s.ab ∧ s.ab ≤ N + 1
  ft : 0 ≤ s.ast ∧ s.ast ≤ N + 2
  fp : 0 ≤ s.asq ∧ s.asq ≤ N
theorem LnB.mono {L : LnT} {N M : Int} (h : LnB L N) (hm : N ≤ M) : LnB L M := ⟨by have := h.q; omega, by have := h.i; omega, by have := h.n; omega⟩
theorem SgB.mono {s : SegT} {N M : Int} (h : SgB s N) (hm : N ≤ M) : SgB s M :=
  ⟨by have := h.fb; omega, by have := h.fs; omega, ⟨h.fq.1, by have := h.fq.2.1; omega, fun k => by have := h.fq.2.2 k; omega⟩, by have := h.fa; omega, by have := h.ft; omega, by have := h.fp; omega⟩
theorem SgB.may {s : SegT} {N : Int} (h : SgB s N) (hN : N ≤ 1000) : mayT s = true :=
  mayT_iff.2 ⟨by have := h.fb; omega, by have := h.fs; omega, by have := h.fq; omega, by have := h.fa; omega, by have := h.ft; omega, by have := h.fp; omega, by have := h.fb; omega⟩
theorem inT_bd {L : LnT} {s : SegT} {N : Int} (h : LnB L N) (ho : LnOk L) (hs : SgB s N) : LnB (inT L s).2.2 N := by
  have hq := h.q; have hi := h.i; have hn := h.n; have hf := ho.first
  have sb := hs.fs; have sq := hs.fq; have sN := hs.fq.2.1
  have hK : LnB (knowT L s) N := by
    unfold knowT
    split
    · split
      · exact ⟨hq, by show s.stream ≤ N + 2; omega, by show (0 : Int) ≤ N; omega⟩
      · exact ⟨by show (0 : Int) + L.q.length ≤ N; omega, by show s.stream ≤ N + 2; omega, by show (0 : Int) ≤ N; omega⟩
    · split
      · exact ⟨hq, by show s.stream ≤ N + 2; omega, by show (0 : Int) ≤ N; omega⟩
      · exact h
  have hA : LnB (ackT (knowT L s) s) N := by
    unfold ackT
    split
    · have hg := goneN_le (knowT L s) s.asq
      refine ⟨?_, hK.i, hK.n⟩
      show (knowT L s).first + (goneN (knowT L s) s.asq : Int) + (((knowT L s).q.drop (goneN (knowT L s) s.asq)).length : Int) ≤ N
      rw [List.length_drop]
      have := hK.q
      omega
    · exact hK
  unfold inT
  split
  · exact h
  · split
    · exact h
    · split
      · exact hA
      · rename_i hh
        have hh : s.has = true := by simpa using hh
        split
        · rename_i hc
          refine ⟨hA.q, hA.i, ?_⟩
          show (ackT (knowT L s) s).next + 1 ≤ N
          have := hs.fq.2.2 hh
          omega
        · exact ⟨hA.q, hA.i, hA.n⟩
/-- What holds of two sides behind N steps. -/
structure PInv (P : PrT) (N : Int) : Prop where
  dA : InvD valT P.A P.B P.b0 P.b1 P.s0 P.t1 (wayTo P.W P.T 1)
  dB : InvD valT P.B P.A P.b1 P.b0 P.s1 P.t0 (wayTo P.W P.T 0)
  okA : LnOk P.A
  okB : LnOk P.B
  lW : P.W.length ≤ 200
  lT : P.T.length = P.W.length
  sd : ∀ d ∈ P.T, d = 0 ∨ d = 1
  bb : P.b0 ≤ N + 1 ∧ P.b1 ≤ N + 1
  ss : P.s0 ≤ N ∧ P.s1 ≤ N
  lA : LnB P.A N
  lB : LnB P.B N
  wy : ∀ s ∈ P.W, SgB s N
theorem PInv.mono {P : PrT} {N M : Int} (h : PInv P N) (hm : N ≤ M) : PInv P M :=
  ⟨h.dA, h.dB, h.okA, h.okB, h.lW, h.lT, h.sd, by have := h.bb; omega, by have := h.ss; omega, h.lA.mono hm, h.lB.mono hm, fun s hs => (h.wy s hs).mono hm⟩
theorem pInv0 : PInv pr0 0 := by
  have hn : ∀ {p : Prop} (s : SegT), s ∈ ([] : List SegT) → p := fun s h => (List.not_mem_nil h).elim
  have hb : ∀ {p : Prop} (b : ByteArray), b ∈ (newLn 1).q → p := fun b h => (List.not_mem_nil h).elim
  have hi : ∀ {p : Prop} (i : Nat) (b : ByteArray), (newLn 1).q[i]? = some b → p := fun i b h => by simp [newLn] at h
  have hD : InvD valT (newLn 1) (newLn 1) 1 1 0 0 [] := ⟨rfl, by omega, by show (0 : Int) ≤ 1; omega, fun s hs => hn s hs, fun s hs => hn s hs, fun b h => hb b h, fun i j a b h => hi i a h, fun s hs => hn s hs, fun _ b h => hb b h, by omega, fun s hs => hn s hs, fun _ s hs => hn s hs, fun s hs => hn s hs, fun _ i b h => hi i b h⟩
  have hL : LnB (newLn 1) 0 := ⟨by simp [newLn], by simp [newLn], by simp [newLn]⟩
  exact ⟨hD, hD, newLn_ok (by omega), newLn_ok (by omega), by simp [pr0], rfl, fun d hd => (List.not_mem_nil hd).elim, ⟨by show (1 : Int) ≤ 0 + 1; omega, by show (1 : Int) ≤ 0 + 1; omega⟩, ⟨by show (0 : Int) ≤ 0; omega, by show (0 : Int) ≤ 0; omega⟩, hL, hL, fun s hs => hn s hs⟩
theorem PInv.stepH {P : PrT} {N : Int} (h : PInv P N) (hN : N ≤ 1000) : StepH P := by
  have hbb := h.bb; have hss := h.ss
  have b0 := h.dB.b1; have b1 := h.dA.b1
  have t0 := h.dB.tl; have t1 := h.dA.tl
  refine ⟨h.lW, h.lT, ⟨⟨by omega, by omega⟩, by omega, by omega⟩, ⟨⟨by omega, by omega⟩, by omega, by omega⟩, h.sd, fun i y d hy hd => ?_⟩
  have hm := (h.wy y (List.mem_of_getElem? hy)).may hN
  have hone : ∀ {l : List ByteArray} {m : ByteArray} {t s : Int}, l = [m] → t < valT m → valT m ≤ s → ∀ x ∈ l, t < valT x ∧ valT x ≤ s := by
    intro l m t s e h1 h2 x hx; subst e; simp at hx; subst hx; exact ⟨h1, h2⟩
  have hnil : ∀ {l : List ByteArray} {t s : Int}, l = [] → ∀ x ∈ l, t < valT x ∧ valT x ≤ s := by intro l t s e x hx; subst e; cases hx
  rcases h.sd d (List.mem_of_getElem? hd) with rfl | rfl
  · obtain ⟨e0, e1⟩ := h.dB.inY (mem_way.2 ⟨i, hy, hd⟩) h.dA.lb hm
    refine ⟨⟨fun _ => e0, fun k => absurd rfl k⟩, fun _ => ?_, fun k => absurd rfl k⟩
    rcases e1 with ⟨a, _⟩ | ⟨a, a2, a3, _⟩
    · exact hnil a
    · exact hone a a2 a3
  · obtain ⟨e0, e1⟩ := h.dA.inY (mem_way.2 ⟨i, hy, hd⟩) h.dB.lb hm
    refine ⟨⟨fun k => absurd k (by decide), fun _ => e0⟩, fun k => absurd k (by decide), fun _ => ?_⟩
    rcases e1 with ⟨a, _⟩ | ⟨a, a2, a3, _⟩
    · exact hnil a
    · exact hone a a2 a3
theorem PInv.gone {P : PrT} {N : Int} {i : Nat} (h : PInv P N) (hi : i < P.W.length) : PInv (goneP P i) N := by
  have hl := h.lT
  have hm : ∀ {α : Type} (l : List α) (x : α), x ∈ l.take i ++ l.drop (i + 1) → x ∈ l := fun l x hx => by
    rcases List.mem_append.1 hx with k | k
    · exact List.mem_of_mem_take k
    · exact List.mem_of_mem_drop k
  exact ⟨h.dA.way fun s hs => .inl (way_gone hl hi hs), h.dB.way fun s hs => .inl (way_gone hl hi hs), h.okA, h.okB, by show (P.W.take i ++ P.W.drop (i + 1)).length ≤ 200; have := h.lW; simp only [List.length_append, List.length_take, List.length_drop]; omega,
    by show (P.T.take i ++ P.T.drop (i + 1)).length = (P.W.take i ++ P.W.drop (i + 1)).length; simp only [List.length_append, List.length_take, List.length_drop]; omega, fun d hd => h.sd d (hm _ d hd), h.bb, h.ss, h.lA, h.lB, fun s hs => h.wy s (hm _ s hs)⟩
theorem toldK_one (t : Int) (b : ByteArray) : toldK t [b] = valT b := rfl
theorem PInv.step {K : Int} {P P' : PrT} {N : Int} (h : PInv P N) (hN0 : 0 ≤ N) (hN : N ≤ 1000) (hr : StepR K P P') : PInv P' (N + 1) := by
  have hbb := h.bb; have hss := h.ss; have hl := h.lT
  have hpA := h.dA.pX; have hpB := h.dB.pX
  have h1 := h.mono (show N ≤ N + 1 by omega)
  have htl0 := h.dB.tl; have htl1 := h.dA.tl
  cases hr with
  | none => exact h1
  | gone i hi => exact h1.gone hi
  | send sd hsd =>
    rcases hsd with rfl | rfl
    · unfold sendP
      rw [if_pos rfl]
      by_cases he : (sendT P.A (numT (P.s0 + 1))).1 = 0
      · rw [if_pos he]
        have e : (sendT P.A (numT (P.s0 + 1))).2 = { P.A with q := P.A.q ++ [numT (P.s0 + 1)] } := by
          unfold sendT at he ⊢
          split at he
          · cases he
          · split at he
            · cases he
            · rename_i q1 q2; rw [if_neg q1, if_neg q2]
        have ho := sendT_ok h.okA (numT (P.s0 + 1))
        rw [e] at ho ⊢
        exact ⟨h.dA.send (val_num (by omega)), h.dB.sameY rfl rfl rfl, ho, h.okB, h.lW, h.lT, h.sd, h1.bb, ⟨by show P.s0 + 1 ≤ N + 1; omega, by show P.s1 ≤ N + 1; omega⟩, ⟨by show P.A.first + ((P.A.q ++ [numT (P.s0 + 1)]).length : Int) ≤ N + 1; have := h.lA.q; rw [List.length_append]; simp; omega, h1.lA.i, h1.lA.n⟩, h1.lB, h1.wy⟩
      · rw [if_neg he]
        have e : (sendT P.A (numT (P.s0 + 1))).2 = P.A := by
          unfold sendT at he ⊢
          split
          · rfl
          · split
            · rfl
            · rename_i q1 q2; rw [if_neg q1, if_neg q2] at he; exact absurd rfl he
        rw [e]; exact h1
    · unfold sendP
      rw [if_neg (by decide)]
      by_cases he : (sendT P.B (numT (P.s1 + 1))).1 = 0
      · rw [if_pos he]
        have e : (sendT P.B (numT (P.s1 + 1))).2 = { P.B with q := P.B.q ++ [numT (P.s1 + 1)] } := by
          unfold sendT at he ⊢
          split at he
          · cases he
          · split at he
            · cases he
            · rename_i q1 q2; rw [if_neg q1, if_neg q2]
        have ho := sendT_ok h.okB (numT (P.s1 + 1))
        rw [e] at ho ⊢
        exact ⟨h.dA.sameY rfl rfl rfl, h.dB.send (val_num (by omega)), h.okA, ho, h.lW, h.lT, h.sd, h1.bb, ⟨by show P.s0 ≤ N + 1; omega, by show P.s1 + 1 ≤ N + 1; omega⟩, h1.lA, ⟨by show P.B.first + ((P.B.q ++ [numT (P.s1 + 1)]).length : Int) ≤ N + 1; have := h.lB.q; rw [List.length_append]; simp; omega, h1.lB.i, h1.lB.n⟩, h1.wy⟩
      · rw [if_neg he]
        have e : (sendT P.B (numT (P.s1 + 1))).2 = P.B := by
          unfold sendT at he ⊢
          split
          · rfl
          · split
            · rfl
            · rename_i q1 q2; rw [if_neg q1, if_neg q2] at he; exact absurd rfl he
        rw [e]; exact h1
  | out sd g k hsd hlen hk =>
    rcases hsd with rfl | rfl
    · unfold outP at hlen ⊢
      rw [if_pos rfl] at hlen hk ⊢
      have hseg : ∀ s ∈ (outT P.A g).take k, SgB s (N + 1) ∧ OutF P.A s := fun s hs => by
        obtain ⟨⟨f1, f2, f3, f4⟩, f5, f6, f7, f8, f9⟩ := outT_form g s (List.mem_of_mem_take hs)
        have a1 := h.okA.boot; have a2 := h.okA.stream; have a3 := h.okA.first; have a4 := h.okA.peer; have a5 := h.okA.in0; have a6 := h.okA.next
        have a7 := h.lA.q; have a8 := h.lA.i; have a9 := h.lA.n; have a10 := h.dA.lb
        exact ⟨⟨by omega, by omega, ⟨by omega, by omega, fun hh => by have := f9 hh; omega⟩, by omega, by omega, by omega⟩, f1, f2, f3, f4⟩
      have hT : (P.T ++ List.replicate k (1 : Int)).length = (P.W ++ (outT P.A g).take k).length := by simp only [List.length_append, List.length_replicate, List.length_take]; omega
      refine ⟨(h.dA.way (W' := wayTo (P.W ++ (outT P.A g).take k) (P.T ++ List.replicate k 1) 1) fun s hs => ?_).sameX rfl rfl rfl rfl rfl, (h.dB.way (W' := wayTo (P.W ++ (outT P.A g).take k) (P.T ++ List.replicate k 1) 0) fun s hs => ?_).sameY rfl rfl rfl, outN_ok h.okA, h.okB, hlen, hT, ?_, h1.bb, h1.ss, ⟨h1.lA.q, h1.lA.i, h1.lA.n⟩, h1.lB, ?_⟩
      · rcases way_app hl hs with k1 | ⟨j, k1, k2⟩
        · exact .inl k1
        · exact .inr (hseg s (List.mem_of_getElem? k1)).2
      · rcases way_app hl hs with k1 | ⟨j, k1, k2⟩
        · exact .inl k1
        · have := List.eq_of_mem_replicate (List.mem_of_getElem? k2); omega
      · intro d hd
        rcases List.mem_append.1 hd with k1 | k1
        · exact h.sd d k1
        · exact .inr (List.eq_of_mem_replicate k1)
      · intro s hs
        rcases List.mem_append.1 hs with k1 | k1
        · exact h1.wy s k1
        · exact (hseg s k1).1
    · unfold outP at hlen ⊢
      rw [if_neg (by decide)] at hlen hk ⊢
      have hseg : ∀ s ∈ (outT P.B g).take k, SgB s (N + 1) ∧ OutF P.B s := fun s hs => by
        obtain ⟨⟨f1, f2, f3, f4⟩, f5, f6, f7, f8, f9⟩ := outT_form g s (List.mem_of_mem_take hs)
        have a1 := h.okB.boot; have a2 := h.okB.stream; have a3 := h.okB.first; have a4 := h.okB.peer; have a5 := h.okB.in0; have a6 := h.okB.next
        have a7 := h.lB.q; have a8 := h.lB.i; have a9 := h.lB.n; have a10 := h.dB.lb
        exact ⟨⟨by omega, by omega, ⟨by omega, by omega, fun hh => by have := f9 hh; omega⟩, by omega, by omega, by omega⟩, f1, f2, f3, f4⟩
      have hT : (P.T ++ List.replicate k (0 : Int)).length = (P.W ++ (outT P.B g).take k).length := by simp only [List.length_append, List.length_replicate, List.length_take]; omega
      refine ⟨(h.dA.way (W' := wayTo (P.W ++ (outT P.B g).take k) (P.T ++ List.replicate k 0) 1) fun s hs => ?_).sameY rfl rfl rfl, (h.dB.way (W' := wayTo (P.W ++ (outT P.B g).take k) (P.T ++ List.replicate k 0) 0) fun s hs => ?_).sameX rfl rfl rfl rfl rfl, h.okA, outN_ok h.okB, hlen, hT, ?_, h1.bb, h1.ss, h1.lA, ⟨h1.lB.q, h1.lB.i, h1.lB.n⟩, ?_⟩
      · rcases way_app hl hs with k1 | ⟨j, k1, k2⟩
        · exact .inl k1
        · have := List.eq_of_mem_replicate (List.mem_of_getElem? k2); omega
      · rcases way_app hl hs with k1 | ⟨j, k1, k2⟩
        · exact .inl k1
        · exact .inr (hseg s (List.mem_of_getElem? k1)).2
      · intro d hd
        rcases List.mem_append.1 hd with k1 | k1
        · exact h.sd d k1
        · exact .inl (List.eq_of_mem_replicate k1)
      · intro s hs
        rcases List.mem_append.1 hs with k1 | k1
        · exact h1.wy s k1
        · exact (hseg s k1).1
  | anew sd hsd _ =>
    have b0 := h.dB.b1; have b1 := h.dA.b1
    have hLn : ∀ c : Int, LnB (newLn c) (N + 1) := fun c => ⟨by show (0 : Int) + ((([] : List ByteArray).length : Nat) : Int) ≤ N + 1; simp; omega, by show (0 : Int) ≤ N + 1 + 2; omega, by show (0 : Int) ≤ N + 1; omega⟩
    rcases hsd with rfl | rfl
    · unfold anewP
      rw [if_pos rfl]
      exact ⟨h.dA.anewX, h.dB.anewY, newLn_ok (by omega), h.okB, h.lW, h.lT, h.sd, ⟨by show P.b0 + 1 ≤ N + 1 + 1; omega, by show P.b1 ≤ N + 1 + 1; omega⟩, h1.ss, hLn _, h1.lB, h1.wy⟩
    · unfold anewP
      rw [if_neg (by decide)]
      exact ⟨h.dA.anewY, h.dB.anewX, h.okA, newLn_ok (by omega), h.lW, h.lT, h.sd, ⟨by show P.b0 ≤ N + 1 + 1; omega, by show P.b1 + 1 ≤ N + 1 + 1; omega⟩, h1.ss, h1.lA, hLn _, h1.wy⟩
  | dup i y d hlt hy hd =>
    have hw : ∀ (c : Int) (s : SegT), s ∈ wayTo (P.W ++ [y]) (P.T ++ [d]) c → s ∈ wayTo P.W P.T c := fun c s hs => by
      rcases way_app hl hs with k1 | ⟨j, k1, k2⟩
      · exact k1
      · have e1 : s = y := by have := List.mem_of_getElem? k1; simpa using this
        have e2 : c = d := by have := List.mem_of_getElem? k2; simpa using this
        subst e1 e2
        exact mem_way.2 ⟨i, hy, hd⟩
    refine ⟨h.dA.way fun s hs => .inl (hw 1 s hs), h.dB.way fun s hs => .inl (hw 0 s hs), h.okA, h.okB, ?_, ?_, ?_, h1.bb, h1.ss, h1.lA, h1.lB, ?_⟩
    · show (P.W ++ [y]).length ≤ 200
      rw [List.length_append]; simp; omega
    · show (P.T ++ [d]).length = (P.W ++ [y]).length
      rw [List.length_append, List.length_append]; simp; omega
    · intro c hc
      rcases List.mem_append.1 hc with k1 | k1
      · exact h.sd c k1
      · simp at k1; subst k1; exact h.sd _ (List.mem_of_getElem? hd)
    · intro s hs
      rcases List.mem_append.1 hs with k1 | k1
      · exact h1.wy s k1
      · simp at k1; subst k1; exact h1.wy _ (List.mem_of_getElem? hy)
  | come i y d hy hd hi =>
    refine PInv.gone ?_ (by unfold comeP; split <;> exact hi)
    have hyB := h.wy y (List.mem_of_getElem? hy)
    have hm := hyB.may hN
    rcases h.sd d (List.mem_of_getElem? hd) with rfl | rfl
    · unfold comeP
      rw [if_pos rfl]
      have hmem := mem_way.2 ⟨i, hy, hd⟩
      have hb := (h.dB.wb y hmem).1
      have hX := h.dA.inX hb
      obtain ⟨-, e1⟩ := h.dB.inY hmem h.dA.lb hm
      have hY : InvD valT P.B (inT P.A y).2.2 P.b1 P.b0 P.s1 (toldK P.t0 (inT P.A y).1) (wayTo P.W P.T 0) := by
        rcases e1 with ⟨a, a2⟩ | ⟨a, _, _, a2⟩
        · rw [a]; exact a2
        · rw [a, toldK_one]; exact a2
      exact ⟨hX, hY, inT_ok h.okA y, h.okB, h.lW, h.lT, h.sd, h1.bb, h1.ss, inT_bd h1.lA h.okA (h1.wy y (List.mem_of_getElem? hy)), h1.lB, h1.wy⟩
    · unfold comeP
      rw [if_neg (by decide)]
      have hmem := mem_way.2 ⟨i, hy, hd⟩
      have hb := (h.dA.wb y hmem).1
      have hX := h.dB.inX hb
      obtain ⟨-, e1⟩ := h.dA.inY hmem h.dB.lb hm
      have hY : InvD valT P.A (inT P.B y).2.2 P.b0 P.b1 P.s0 (toldK P.t1 (inT P.B y).1) (wayTo P.W P.T 1) := by
        rcases e1 with ⟨a, a2⟩ | ⟨a, _, _, a2⟩
        · rw [a]; exact a2
        · rw [a, toldK_one]; exact a2
      exact ⟨hY, hX, h.okA, inT_ok h.okB y, h.lW, h.lT, h.sd, h1.bb, h1.ss, h1.lA, inT_bd h1.lB h.okB (h1.wy y (List.mem_of_getElem? hy)), h1.wy⟩
end Go.Proofs.Ythmljllgfigebaa
