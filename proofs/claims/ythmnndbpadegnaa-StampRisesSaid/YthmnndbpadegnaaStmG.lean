/- catenalaw19.StampRises: the timestamps go on, in numbers; awake; the document's log as it is made. Conditions: none. -/
import Derived.Test.YthmnndbpadegnaaStmF
import Derived.Test.YthmnndbpadegnaaRlgZ
namespace Go.Proofs.Ythmnndbpadegnaa
open Go.RowKit Go.PlainAid
set_option linter.unusedVariables false

theorem stN_below : ∀ {l : List EntT} {j : Nat} {z : EntT}, j < stN l → l[j]? = some z → z.ts ≠ 0
  | [], j, z, h, _ => by simp [stN] at h
  | e :: r, j, z, h, hz => by
    unfold stN at h
    rw [List.takeWhile_cons] at h
    by_cases q : e.ts ≠ 0
    · rw [if_pos (by simpa using q)] at h
      cases j with
      | zero => simp at hz; subst hz; exact q
      | succ j => exact stN_below (l := r) (j := j) (by unfold stN; simpa using h) (by simpa using hz)
    · rw [if_neg (by simpa using q)] at h; simp at h
theorem stmZero : ∀ {l : List EntT} {z : EntT}, l[stN l]? = some z → z.ts = 0
  | [], z, hz => by simp at hz
  | e :: r, z, hz => by
    by_cases q : e.ts ≠ 0
    · have e1 : stN (e :: r) = stN r + 1 := by unfold stN; rw [List.takeWhile_cons, if_pos (by simpa using q)]; rfl
      rw [e1, List.getElem?_cons_succ] at hz
      exact stmZero hz
    · have e1 : stN (e :: r) = 0 := by unfold stN; rw [List.takeWhile_cons, if_neg (by simpa using q)]; rfl
      rw [e1] at hz; simp at hz; subst hz; omega
theorem stmNext {X : List EntT} {i ts : Int} (hR : RI X) (h0 : stE X i ts = 0) : stN (stL X i ts) = stN X + 1 ∧ lastT (stL X i ts) = ts ∧ (stL X i ts).length = X.length := by
  obtain ⟨k1, k2, k3, k4, k5⟩ := stE_0 h0
  have hil : i.toNat < X.length := by omega
  have hy := List.getElem?_eq_getElem hil
  have hi : i.toNat = stN X := by omega
  have e := stL_ok h0 hy
  have hat : ∀ j, (X.set i.toNat { X[i.toNat] with ts := ts })[j]? = if i.toNat = j then some { X[i.toNat] with ts := ts } else X[j]? := fun j => by
    rw [List.getElem?_set]
    by_cases q : i.toNat = j
    · rw [if_pos q, if_pos q, if_pos (by omega)]
    · rw [if_neg q, if_neg q]
  have hbel : ∀ j, j < stN X + 1 → ∀ z, (stL X i ts)[j]? = some z → z.ts ≠ 0 := by
    intro j hj z hz
    rw [e, hat] at hz
    by_cases q : i.toNat = j
    · rw [if_pos q] at hz; cases hz; show ts ≠ 0; omega
    · rw [if_neg q] at hz; exact stN_below (by omega) hz
  have hst : stN (stL X i ts) = stN X + 1 := by
    by_cases hl : stN X + 1 < X.length
    · have hz := List.getElem?_eq_getElem hl
      refine stN_stop (y := X[stN X + 1]) hbel (by rw [e, hat, if_neg (by omega)]; exact hz) ?_
      have h1 : X[stN X]? = some X[stN X] := List.getElem?_eq_getElem (by omega)
      have hz0 := stmZero h1
      by_cases q : (X[stN X + 1]).ts = 0
      · exact q
      · exact absurd hz0 (hR.up (stN X) _ _ hz h1 q).1
    · exact stN_end hbel (by rw [stL_len]; omega)
  refine ⟨hst, ?_, stL_len⟩
  unfold lastT
  rw [hst, if_neg (by omega), show stN X + 1 - 1 = i.toNat by omega, List.getD_eq_getElem?_getD, e, hat, if_pos rfl]
  rfl
theorem lastR_T (l : List EntT) : lastR l = lastT l := by unfold lastT; rfl
/-- Where the stamping stands behind k notes. -/
def StP (l : List EntT) (n f : Int) (ys : List Stp) (k : Nat) (X : List EntT) : Prop := ∃ a, SRun l.length n f (stN l : Nat) (lastR l) (ys.take k) ((stN l + k : Nat) : Int) a ∧ RI X ∧ stN X = stN l + k ∧ lastT X = a ∧ X.length = l.length
theorem cong_e0 {α : Type} {F : List EntT → α} (hF : ∀ L, F (L.map e0) = F L) {A B : List EntT} (h : A.map e0 = B.map e0) : F A = F B := by rw [← hF A, ← hF B, h]
theorem StP.start {l X : List EntT} {n f : Int} {ys : List Stp} (hR : RI l) (h : X.map e0 = l.map e0) : StP l n f ys 0 X :=
  ⟨lastR l, ⟨by simp, rfl⟩, RI.e0 h.symm hR, cong_e0 stN_e0 h, by rw [lastR_T]; exact cong_e0 lastT_e0 h, e0_len h⟩
theorem SRun.split {L n f : Int} : ∀ {p q : List Stp} {i a i' a' : Int}, SRun L n f i a (p ++ q) i' a' → ∃ j b, SRun L n f i a p j b ∧ SRun L n f j b q i' a'
  | [], q, i, a, i', a', h => ⟨i, a, ⟨rfl, rfl⟩, h⟩
  | x :: p, q, i, a, i', a', h => by
    obtain ⟨j, b, h1, h2⟩ := SRun.split h.2.2.2
    exact ⟨j, b, ⟨h.1, h.2.1, h.2.2.1, h1⟩, h2⟩
theorem srun_fun {L n f : Int} : ∀ {p : List Stp} {i a j b j' b' : Int}, SRun L n f i a p j b → SRun L n f i a p j' b' → j = j' ∧ b = b'
  | [], i, a, j, b, j', b', h, k => by obtain ⟨rfl, rfl⟩ := h; obtain ⟨rfl, rfl⟩ := k; exact ⟨rfl, rfl⟩
  | x :: p, i, a, j, b, j', b', h, k => srun_fun h.2.2.2 k.2.2.2
theorem nxT_up {a f : Int} (h : (nxT a f).2 = 0) (ha : 0 ≤ a) (ha1 : a ≤ topT) (hf : f ≤ topT) : a < (nxT a f).1 ∧ f ≤ (nxT a f).1 ∧ (nxT a f).1 ≤ topT := by
  unfold nxT at h ⊢
  split at h
  · simp at h
  · rename_i q
    rw [if_neg q]
    dsimp only
    split <;> omega
theorem StP.at {l X : List EntT} {n f : Int} {ys : List Stp} {k : Nat} {y : Stp} (h : StP l n f ys k X) (hA : AllS l n f ys) (hy : ys[k]? = some y) (hf : 0 ≤ f) (hf1 : f ≤ topT) (hl : 0 ≤ lastR l ∧ lastR l ≤ topT) :
    f ≤ y.2 ∧ (0 ≤ y.2 ∧ y.2 < 18446744073709551616) ∧ stE X y.1 y.2 = 0 ∧ ∀ X', X'.map e0 = (stL X y.1 y.2).map e0 → StP l n f ys (k + 1) X' := by
  obtain ⟨a, h1, h2, h3, h4, h5⟩ := h
  obtain ⟨i', a', hR, hE⟩ := hA
  have hk := (List.getElem?_eq_some_iff.1 hy).1
  have hsp : ys = ys.take k ++ y :: ys.drop (k + 1) := by
    obtain ⟨_, hy2⟩ := List.getElem?_eq_some_iff.1 hy
    rw [← hy2, ← List.drop_eq_getElem_cons hk, List.take_append_drop]
  rw [hsp] at hR
  obtain ⟨j, b, g1, g2⟩ := SRun.split hR
  obtain ⟨rfl, rfl⟩ := srun_fun g1 h1
  obtain ⟨ha0, ha1⟩ := h1.bd hf hf1 hl.1 hl.2
  obtain ⟨c1, c2, c3, _⟩ := g2
  have hup := nxT_up c2 ha0 ha1 hf1
  rw [c3]
  dsimp only
  have hE0 : stE X ((stN l + k : Nat) : Int) (nxT b f).1 = 0 := stE_d (by omega) (by omega) (by rw [h3, h4]; omega)
  refine ⟨hup.2.1, ⟨by omega, by unfold topT at hup; omega⟩, hE0, fun X' hX' => ?_⟩
  obtain ⟨n1, n2, n3⟩ := stmNext h2 hE0
  refine ⟨(nxT b f).1, ?_, RI.e0 hX'.symm (RI.st h2), ?_, ?_, ?_⟩
  · have e1 : ys.take (k + 1) = ys.take k ++ [(((stN l + k : Nat) : Int), (nxT b f).1)] := by rw [List.take_add_one, hy, c3]; rfl
    rw [e1]
    have := h1.snoc c1 c2
    rwa [show ((stN l + (k + 1) : Nat) : Int) = ((stN l + k : Nat) : Int) + 1 by omega]
  · rw [cong_e0 stN_e0 hX', n1, h3]; omega
  · rw [cong_e0 lastT_e0 hX', n2]
  · rw [e0_len hX', n3, h5]
theorem StP.fin {l X : List EntT} {n f : Int} {ys : List Stp} {k : Nat} (h : StP l n f ys k X) (hA : AllS l n f ys) (hk : ys.length ≤ k) (hf : 0 ≤ f) (hf1 : f ≤ topT) (hl : 0 ≤ lastR l ∧ lastR l ≤ topT) :
    rightI X = 0 ∧ X.length = l.length ∧ (((stN X : Nat) : Int) < n ∧ ((stN X : Nat) : Int) < (l.length : Int) → lastT X = 18446744073709551615) := by
  obtain ⟨a, h1, h2, h3, h4, h5⟩ := h
  obtain ⟨i', a', hR, hE⟩ := hA
  rw [List.take_of_length_le hk] at h1
  obtain ⟨rfl, rfl⟩ := srun_fun h1 hR
  refine ⟨h2.right, h5, fun hq => ?_⟩
  rcases hE with hE | hE
  · exact absurd ⟨by rw [← h3]; exact hq.1, by rw [← h3]; exact hq.2⟩ hE
  · rw [h4]
    unfold nxT at hE
    split at hE
    · rename_i e; exact e
    · simp at hE
theorem RI.small {l : List EntT} (h : RI l) : ∀ z ∈ l, z.opl.length ≤ 20 := fun z hz => by have := ((chkB_iff _ _ _).1 (h.chk z hz)).2.2.1; omega
theorem lastT_bd {w : World} {l : List EntT} (h : ∀ z ∈ l, EntOk w z) : 0 ≤ lastR l ∧ lastR l ≤ topT := by
  rw [lastR_T]
  unfold lastT topT
  split
  · omega
  · by_cases q : stN l - 1 < l.length
    · have hm := List.getElem_mem q
      have := h _ hm
      rw [List.getD_eq_getElem?_getD, List.getElem?_eq_getElem q]
      exact ⟨this.ts0, by have := this.ts1; show (l[stN l - 1]).ts ≤ _; omega⟩
    · have := stN_le l; omega
theorem fold_nn : ∀ (l : List EntT) (k : Int), k ≤ l.foldl (fun n e => n + (e.opl.length : Int)) k
  | [], k => Int.le_refl _
  | e :: r, k => by
    have := fold_nn r (k + (e.opl.length : Int))
    exact Int.le_trans (by omega) this
theorem much_len {l : List EntT} (h : ¬ muchN l > 80) : l.length ≤ 80 := by
  have hs : 0 ≤ sumN (l.take 200) := fold_nn _ 0
  unfold muchN at h; omega
/-- The document's log, just made. -/
theorem RObj.mk0 {w : World} {n B d : Nat} {u : Value} {L : List EntT} (hr : w.ownsRow B 47 4 u L.length (L.flatMap entE)) (hE : EntsK (fun _ => False) n w L) (hb : Blk w d 41 #[u]) (hB : n ≤ B) (hd : n ≤ d) (hl : L.length ≤ 100) :
    ∃ S : Nat → Prop, RObj S w d u L ∧ ∀ q, S q → n ≤ q :=
  ⟨_, RgP.fin (S := fun _ => False) (n := n) ⟨hb, row_lows hr (Nat.zero_le _), hE, .inr hd, InS.low hr hB, hl⟩, fun q hq => by rcases hq.1 with h | h; exact absurd h id; exact h⟩
theorem RObj.sl {D : Nat → Prop} {w : World} {d : Nat} {u : Value} {X : List EntT} (h : RObj D w d u X) : SliceOf entE 4 w u X := SliceOf.own h.2.row (fun _ _ => rfl)
theorem RObj.got {D : Nat → Prop} {w : World} {d : Nat} {u : Value} {X : List EntT} (h : RObj D w d u X) : ∀ z ∈ X, EntOk w z := entsK_got h.2.ents
theorem RObj.lg {D : Nat → Prop} {w : World} {d : Nat} {u : Value} {X : List EntT} (h : RObj D w d u X) : Blk w d 41 #[u] := h.2.blk
set_option maxHeartbeats 800000 in
theorem awake19 (w : World) : Calls Try.prog 51 #[] w fun e w' => e = .returned (.bool true) ∧ Below w.heap.size w w' := by
  go_enter Try.func51, Try.ntmps51
  go_wp2_with fail
  refine (snext_any 5 3 _ (by decide) (by decide)).mono ?_
  rintro e w1 ⟨rfl, rfl⟩
  rw [show nxT 5 3 = (6, 0) from rfl]
  go_wp2_with fail
  refine (snext_any 5 9 _ (by decide) (by decide)).mono ?_
  rintro e w1 ⟨rfl, rfl⟩
  rw [show nxT 5 9 = (9, 0) from rfl]
  go_wp2_with fail
  refine (snext_any 18446744073709551615 0 _ (by decide) (by decide)).mono ?_
  rintro e w1 ⟨rfl, rfl⟩
  rw [show nxT 18446744073709551615 0 = (0, 16) from rfl]
  go_wp2
  go_ret
  exact ⟨rfl, Below.refl _ _⟩
end Go.Proofs.Ythmnndbpadegnaa
