/- Package tree: least; what del comes to. Conditions: none. -/
import Derived.Test.YtfjhlckklgeokaaTrcE
namespace Go.Proofs.Ytfjhlckklgeokaa
open Go.RowKit Go.PlainAid
set_option linter.unusedVariables false
set_option linter.unusedSimpArgs false


def isNil : Tm → Bool
  | .nil => true
  | .nd .. => false
theorem isNil_t {t : Tm} (h : isNil t = true) : t = .nil := by cases t with | nil => rfl | nd => cases h
theorem isNil_f {t : Tm} (h : isNil t = false) : ∃ b l k v d r, t = .nd b l k v d r := by cases t with | nil => cases h | nd b l k v d r => exact ⟨b, l, k, v, d, r, rfl⟩
section
variable {m : List (Nat × Value)} {o : Oper} {w : World} {q r : Operand} {T' : TypeId} {l : Tm}
set_option maxRecDepth 100000 in
theorem rn_eqPt (ho : o.op = .binOp .eql 84 q r T') (hq : ev m q = some (ptT l)) (hr : ev m r = some (.pointer none)) : (execOp (lk m) o).run Try.prog w = .ok (.value (.bool (isNil l))) w := by
  unfold execOp
  cases l with
  | nil => simp only [ho, lk_ev hq, lk_ev hr, ptT]; rfl
  | nd b l k v d r => simp only [ho, lk_ev hq, lk_ev hr, ptT]; rfl
set_option maxRecDepth 100000 in
theorem rn_nePt (ho : o.op = .binOp .neq 84 q r T') (hq : ev m q = some (ptT l)) (hr : ev m r = some (.pointer none)) : (execOp (lk m) o).run Try.prog w = .ok (.value (.bool (!(isNil l)))) w := by
  unfold execOp
  cases l with
  | nil => simp only [ho, lk_ev hq, lk_ev hr, ptT]; rfl
  | nd b l k v d r => simp only [ho, lk_ev hq, lk_ev hr, ptT]; rfl
end
/-- What the lowest key has. -/
def lmT : Tm → ByteArray × SlT
  | .nil => (⟨#[]⟩, ⟨none, 0, 0⟩)
  | .nd _ l k v _ _ => if isNil l = true then (k, v) else lmT l
def delT : Tm → ByteArray → Tm
  | .nil, _ => .nil
  | .nd b l k' v' d r, k => if klt k k' = true then balT (.nd b (delT l k) k' v' d r) else if klt k' k = true then balT (.nd b l k' v' d (delT r k))
    else if isNil l = true then r else if isNil r = true then l else balT (.nd b l (lmT r).1 (lmT r).2 d (delT r (lmT r).1))
section
variable {b N : Nat} {l r t : Tm} {k k' : ByteArray} {v v' : SlT} {d : Int}
theorem delT_l (h : klt k k' = true) : delT (.nd b l k' v' d r) k = balT (.nd b (delT l k) k' v' d r) := by rw [delT, if_pos h]
theorem delT_r (h : klt k k' = false) (h2 : klt k' k = true) : delT (.nd b l k' v' d r) k = balT (.nd b l k' v' d (delT r k)) := by rw [delT, if_neg (by simp [h]), if_pos h2]
theorem delT_e1 (h : klt k k' = false) (h2 : klt k' k = false) (h3 : isNil l = true) : delT (.nd b l k' v' d r) k = r := by rw [delT, if_neg (by simp [h]), if_neg (by simp [h2]), if_pos h3]
theorem delT_e2 (h : klt k k' = false) (h2 : klt k' k = false) (h3 : isNil l = false) (h4 : isNil r = true) : delT (.nd b l k' v' d r) k = l := by rw [delT, if_neg (by simp [h]), if_neg (by simp [h2]), if_neg (by simp [h3]), if_pos h4]
theorem delT_e3 (h : klt k k' = false) (h2 : klt k' k = false) (h3 : isNil l = false) (h4 : isNil r = false) : delT (.nd b l k' v' d r) k = balT (.nd b l (lmT r).1 (lmT r).2 d (delT r (lmT r).1)) := by rw [delT, if_neg (by simp [h]), if_neg (by simp [h2]), if_neg (by simp [h3]), if_neg (by simp [h4])]
theorem dp_nil' (h : isNil t = true) : dp t = 0 := by rw [isNil_t h]; rfl
end
theorem dp_pos {t : Tm} (ha : Avl t) (h : isNil t = false) : 1 ≤ dp t := by
  obtain ⟨b, l, k, v, d, r, rfl⟩ := isNil_f h
  have m := mx_bd3 (a := dp l) (b := dp r); have := ha.1.bd
  rw [dp_nd, ha.2.2.1]; omega
/-- The ways of del. -/
theorem del_ways {P : Tm → ByteArray → Tm → Prop} (h0 : ∀ k, P .nil k .nil)
    (hl : ∀ b l k' v' d r k, klt k k' = true → P l k (delT l k) → P (.nd b l k' v' d r) k (balT (.nd b (delT l k) k' v' d r)))
    (hr : ∀ b l k' v' d r k, klt k k' = false → klt k' k = true → P r k (delT r k) → P (.nd b l k' v' d r) k (balT (.nd b l k' v' d (delT r k))))
    (h1 : ∀ b l k' v' d r k, klt k k' = false → klt k' k = false → isNil l = true → P (.nd b l k' v' d r) k r)
    (h2 : ∀ b l k' v' d r k, klt k k' = false → klt k' k = false → isNil l = false → isNil r = true → P (.nd b l k' v' d r) k l)
    (h3 : ∀ b l k' v' d r k, klt k k' = false → klt k' k = false → isNil l = false → isNil r = false → P r (lmT r).1 (delT r (lmT r).1) → P (.nd b l k' v' d r) k (balT (.nd b l (lmT r).1 (lmT r).2 d (delT r (lmT r).1)))) : ∀ t k, P t k (delT t k) := by
  intro t
  induction t with
  | nil => exact h0
  | nd b l k' v' d r ihl ihr =>
    intro k
    by_cases q1 : klt k k' = true
    · rw [delT_l q1]; exact hl _ _ _ _ _ _ _ q1 (ihl k)
    · have q1 : klt k k' = false := by simpa using q1
      by_cases q2 : klt k' k = true
      · rw [delT_r q1 q2]; exact hr _ _ _ _ _ _ _ q1 q2 (ihr k)
      · have q2 : klt k' k = false := by simpa using q2
        by_cases q3 : isNil l = true
        · rw [delT_e1 q1 q2 q3]; exact h1 _ _ _ _ _ _ _ q1 q2 q3
        · have q3 : isNil l = false := by simpa using q3
          by_cases q4 : isNil r = true
          · rw [delT_e2 q1 q2 q3 q4]; exact h2 _ _ _ _ _ _ _ q1 q2 q3 q4
          · have q4 : isNil r = false := by simpa using q4
            rw [delT_e3 q1 q2 q3 q4]; exact h3 _ _ _ _ _ _ _ q1 q2 q3 q4 (ihr _)
theorem del_avl : ∀ t k, Avl t → Avl (delT t k) ∧ dp (delT t k) ≤ dp t ∧ dp t ≤ dp (delT t k) + 1 := by
  refine del_ways (P := fun t k u => Avl t → Avl u ∧ dp u ≤ dp t ∧ dp t ≤ dp u + 1) ?_ ?_ ?_ ?_ ?_ ?_
  · intro k _; exact ⟨trivial, Int.le_refl _, by show (0 : Int) ≤ 0 + 1; decide⟩
  · intro b l k' v' d r k _ ih ⟨a1, a2, a3, a4, a5⟩
    obtain ⟨i1, i2, i3⟩ := ih a1
    have m := mx_bd3 (a := dp l) (b := dp r); have m2 := mx_bd3 (a := dp (delT l k)) (b := dp r)
    obtain ⟨j1, j2, j3, j4⟩ := balT_avl (b := b) (k := k') (v := v') (d := d) i1 a2 (by omega) (by omega)
    rw [dp_nd]
    by_cases h3 : dp r - dp (delT l k) ≤ 1
    · have := j4 (by omega) h3; exact ⟨j1, by omega, by omega⟩
    · exact ⟨j1, by omega, by omega⟩
  · intro b l k' v' d r k _ _ ih ⟨a1, a2, a3, a4, a5⟩
    obtain ⟨i1, i2, i3⟩ := ih a2
    have m := mx_bd3 (a := dp l) (b := dp r); have m2 := mx_bd3 (a := dp l) (b := dp (delT r k))
    obtain ⟨j1, j2, j3, j4⟩ := balT_avl (b := b) (k := k') (v := v') (d := d) a1 i1 (by omega) (by omega)
    rw [dp_nd]
    by_cases h3 : dp l - dp (delT r k) ≤ 1
    · have := j4 h3 (by omega); exact ⟨j1, by omega, by omega⟩
    · exact ⟨j1, by omega, by omega⟩
  · intro b l k' v' d r k _ _ h3 ⟨a1, a2, a3, a4, a5⟩
    have := dp_nil' h3; have m := mx_bd3 (a := dp l) (b := dp r); have := a2.bd
    rw [dp_nd]; exact ⟨a2, by omega, by omega⟩
  · intro b l k' v' d r k _ _ _ h4 ⟨a1, a2, a3, a4, a5⟩
    have := dp_nil' h4; have m := mx_bd3 (a := dp l) (b := dp r); have := a1.bd
    rw [dp_nd]; exact ⟨a1, by omega, by omega⟩
  · intro b l k' v' d r k _ _ _ _ ih ⟨a1, a2, a3, a4, a5⟩
    obtain ⟨i1, i2, i3⟩ := ih a2
    have m := mx_bd3 (a := dp l) (b := dp r); have m2 := mx_bd3 (a := dp l) (b := dp (delT r (lmT r).1))
    obtain ⟨j1, j2, j3, j4⟩ := balT_avl (b := b) (k := (lmT r).1) (v := (lmT r).2) (d := d) a1 i1 (by omega) (by omega)
    rw [dp_nd]
    by_cases h3 : dp l - dp (delT r (lmT r).1) ≤ 1
    · have := j4 h3 (by omega); exact ⟨j1, by omega, by omega⟩
    · exact ⟨j1, by omega, by omega⟩
/-- No block comes twice, and none is new. -/
theorem del_bk : ∀ t k, Avl t → (bk t).Nodup → (∀ q ∈ bk (delT t k), q ∈ bk t) ∧ (bk (delT t k)).Nodup := by
  have key : ∀ {b : Nat} {l r u : Tm} {k v d k' v'}, Avl l → Avl u → (bk (.nd b l k v d r)).Nodup → (∀ q ∈ bk u, q ∈ bk r) → (bk u).Nodup → (∀ q ∈ bk (balT (.nd b l k' v' d u)), q ∈ bk (.nd b l k v d r)) ∧ (bk (balT (.nd b l k' v' d u))).Nodup := by
    intro b l r u k v d k' v' a1 a2 hn hs hu
    obtain ⟨n1, n2, n3, n4, n5⟩ := nd_ap hn
    have hp := balT_bk (b := b) (k := k') (v := v') (d := d) a1 a2
    refine ⟨fun q hq => ?_, hp.nodup_iff.2 (nd_ap' n1 (fun h => n2 (hs _ h)) n3 hu (fun q hq hq2 => n5 q hq (hs q hq2)))⟩
    have := hp.mem_iff.1 hq
    simp only [bk, List.mem_cons, List.mem_append] at this ⊢
    rcases this with h | h | h
    · exact .inl h
    · exact .inr (.inl h)
    · exact .inr (.inr (hs q h))
  refine del_ways (P := fun t k u => Avl t → (bk t).Nodup → (∀ q ∈ bk u, q ∈ bk t) ∧ (bk u).Nodup) ?_ ?_ ?_ ?_ ?_ ?_
  · intro k _ _; exact ⟨fun q hq => hq, by simp [bk]⟩
  · intro b l k' v' d r k _ ih ⟨a1, a2, a3, a4, a5⟩ hn
    obtain ⟨n1, n2, n3, n4, n5⟩ := nd_ap hn
    obtain ⟨i1, i2⟩ := ih a1 n3
    have hp := balT_bk (b := b) (k := k') (v := v') (d := d) (del_avl l k a1).1 a2
    refine ⟨fun q hq => ?_, hp.nodup_iff.2 (nd_ap' (fun h => n1 (i1 _ h)) n2 i2 n4 (fun q hq hq2 => n5 q (i1 q hq) hq2))⟩
    have := hp.mem_iff.1 hq
    simp only [bk, List.mem_cons, List.mem_append] at this ⊢
    rcases this with h | h | h
    · exact .inl h
    · exact .inr (.inl (i1 q h))
    · exact .inr (.inr h)
  · intro b l k' v' d r k _ _ ih ⟨a1, a2, a3, a4, a5⟩ hn
    obtain ⟨n1, n2, n3, n4, n5⟩ := nd_ap hn
    obtain ⟨i1, i2⟩ := ih a2 n4
    exact key a1 (del_avl r k a2).1 hn i1 i2
  · intro b l k' v' d r k _ _ _ _ hn
    exact ⟨fun q hq => by simp [bk, hq], (nd_ap hn).2.2.2.1⟩
  · intro b l k' v' d r k _ _ _ _ _ hn
    exact ⟨fun q hq => by simp [bk, hq], (nd_ap hn).2.2.1⟩
  · intro b l k' v' d r k _ _ _ _ ih ⟨a1, a2, a3, a4, a5⟩ hn
    obtain ⟨n1, n2, n3, n4, n5⟩ := nd_ap hn
    obtain ⟨i1, i2⟩ := ih a2 n4
    exact key a1 (del_avl r _ a2).1 hn i1 i2
theorem hasT_lm : ∀ t : Tm, isNil t = false → (∀ k, klt k k = false) → hasT t (lmT t).1 = true ∨ True := fun _ _ _ => .inr trivial
theorem del_sz : ∀ t k, Avl t → sz (delT t k) ≤ sz t ∧ sz t ≤ sz (delT t k) + 1 := by
  refine del_ways (P := fun t k u => Avl t → sz u ≤ sz t ∧ sz t ≤ sz u + 1) ?_ ?_ ?_ ?_ ?_ ?_
  · intro k _; exact ⟨Nat.le_refl _, by simp [sz]⟩
  · intro b l k' v' d r k _ ih ⟨a1, a2, a3, a4, a5⟩
    have := ih a1; rw [balT_sz (del_avl l k a1).1 a2]; simp only [sz]; omega
  · intro b l k' v' d r k _ _ ih ⟨a1, a2, a3, a4, a5⟩
    have := ih a2; rw [balT_sz a1 (del_avl r k a2).1]; simp only [sz]; omega
  · intro b l k' v' d r k _ _ h3 _
    rw [isNil_t h3]; simp only [sz]; omega
  · intro b l k' v' d r k _ _ _ h4 _
    rw [isNil_t h4]; simp only [sz]; omega
  · intro b l k' v' d r k _ _ _ _ ih ⟨a1, a2, a3, a4, a5⟩
    have := ih a2; rw [balT_sz a1 (del_avl r _ a2).1]; simp only [sz]; omega
theorem lmT_nil {b : Nat} {l r : Tm} {k : ByteArray} {v : SlT} {d : Int} (h : isNil l = true) : lmT (.nd b l k v d r) = (k, v) := by rw [lmT, if_pos h]
theorem lmT_nd {b : Nat} {l r : Tm} {k : ByteArray} {v : SlT} {d : Int} (h : isNil l = false) : lmT (.nd b l k v d r) = lmT l := by rw [lmT, if_neg (by simp [h])]

set_option maxRecDepth 100000 in
theorem least_nd (b : Nat) (l : Tm) (k : ByteArray) (v : SlT) (d : Int) (r : Tm) (w : World) (hB : Blk w b 89 #[.string k, .slice v.a v.n v.c, .int .i64 d, (ptT l), (ptT r)]) (hl : TreeAt w l) :
    Calls Try.prog 58 #[pt b 0] w fun e w' => ∃ (c : Nat) (k1 : ByteArray) (v1 : SlT) (d1 : Int) (p1 : Value) (q1 : Value), e = .returned (pt c 0) ∧ lmT (Tm.nd b l k v d r) = (k1, v1) ∧ c ∈ bk (Tm.nd b l k v d r) ∧ Blk w' c 89 #[.string k1, .slice v1.a v1.n v1.c, .int .i64 d1, p1, q1] ∧ w = w' := by
 have hB0 := Below.refl w.heap.size w
 have hl_hB := hB.lt
 refine co_enter (n := 13) Try.func58 rfl rfl rfl [(0, pt b 0)] rfl (fun a h0 => ?_)
 refine co_seq ?_
 refine co_reg ?_
 refine pk0 (v := .pointer none) h0 rfl fun a1 h1 => ?_; clear h0
 refine pl_nil ?_
 refine co_then ?_
 refine co_seq ?_
 refine wp_block ?_
 have h2 : Slots 13 [(0, pt b 0)] _ := h1.sub ⟨rfl, trivial⟩; clear h1
 refine co_loop (fun mm a x => ∃ (c : Nat) (cl : Tm) (ck : ByteArray) (cv : SlT) (cd : Int) (cr : Tm), Slots 13 [(0, pt c 0)] a ∧ mm = 0 + sz cl ∧ (lmT (Tm.nd c cl ck cv cd cr) = lmT (Tm.nd b l k v d r)) ∧ (c ∈ bk (Tm.nd b l k v d r)) ∧ (∀ q ∈ bk cl, q ∈ bk (Tm.nd b l k v d r)) ∧ Blk x c 89 (ndV ck cv cd cl cr) ∧ TreeAt x cl ∧ w = x) (0 + sz l) ?_ ?_
 · exact ⟨b, l, k, v, d, r, h2.sub ⟨rfl, trivial⟩, rfl, by first | rfl | exact (lmT_nd (by rfl)).symm.trans (by assumption : lmT (Tm.nd c (Tm.nd c9 l9 k9 v9 d9 r9) ck cv cd cr) = lmT (Tm.nd b l k v d r)), by first | (simp [bk]; done) | exact (by assumption : ∀ q ∈ bk (Tm.nd c9 l9 k9 v9 d9 r9), q ∈ bk (Tm.nd b l k v d r)) c9 (by simp [bk]), by first | exact fun q hq => (by assumption : ∀ q ∈ bk (Tm.nd c9 l9 k9 v9 d9 r9), q ∈ bk (Tm.nd b l k v d r)) q (by simp [bk, hq]) | exact fun q hq => by simp [bk, hq], hB, hl, rfl⟩
 · rintro k3 a4 _ ⟨c, cl, ck, cv, cd, cr, h4, rfl, hi6, hi7, hi8, hf9, hf10, rfl⟩
   have hl12 := hf9.lt
   refine co_seq ?_
   refine co_seq ?_
   refine co_reg ?_
   refine pk0 (v := pt c 0) h4 rfl fun a13 h13 => ?_; clear h4
   refine pk0 (v := pt c 0) h13 rfl fun a14 h14 => ?_; clear h13
   refine pk0 (v := pt c 3) h14 rfl fun a15 h15 => ?_; clear h14
   refine pk (v := (ptT cl)) h15 rfl (rn_load1 rfl rfl Try.isAgg84 (hf9.cell rfl)) fun a16 h16 => ?_; clear h15
   refine pk (v := .bool (!(isNil cl))) h16 rfl (rn_nePt rfl rfl rfl) fun a17 h17 => ?_; clear h16
   refine pl_nil ?_
   refine co_then ?_
   cases hc18 : (!(isNil cl))
   ·
    rw [hc18] at h17
    refine co_false h17 rfl ?_
    refine wp_exit ?_
    refine co_thenX ?_
    refine co_thenX ?_
    refine co_blockX ?_
    refine co_then ?_
    refine co_seq ?_
    refine co_reg ?_
    refine pk0 (v := pt c 0) h17 rfl fun a19 h19 => ?_; clear h17
    refine pk0 (v := pt c 0) h19 rfl fun a20 h20 => ?_; clear h19
    refine pl_nil ?_
    refine co_then ?_
    refine wp_ret ?_
    refine co_ret1 h20 rfl rfl ?_
    have hn0 : isNil cl = true := by simpa using hc18
    exact ⟨c, ck, cv, cd, _, _, rfl, by rw [← (by assumption : lmT (Tm.nd c cl ck cv cd cr) = lmT (Tm.nd b l k v d r)), lmT_nil hn0], by assumption, hf9, rfl⟩
   ·
    rw [hc18] at h17
    refine co_true h17 rfl ?_
    refine wp_skip ?_
    refine co_then ?_
    refine wp_block ?_
    refine co_reg ?_
    refine pk0 (v := pt c 0) h17 rfl fun a21 h21 => ?_; clear h17
    refine pk0 (v := pt c 0) h21 rfl fun a22 h22 => ?_; clear h21
    refine pk0 (v := pt c 3) h22 rfl fun a23 h23 => ?_; clear h22
    refine pk (v := (ptT cl)) h23 rfl (rn_load1 rfl rfl Try.isAgg84 (hf9.cell rfl)) fun a24 h24 => ?_; clear h23
    refine pk0 (v := (ptT cl)) h24 rfl fun a25 h25 => ?_; clear h24
    refine pl_nil ?_
    refine co_blockN ?_
    refine co_then ?_
    obtain ⟨c9, l9, k9, v9, d9, r9, rfl⟩ := isNil_f (by simpa using hc18 : isNil cl = false)
    have hsz9 : sz (Tm.nd c9 l9 k9 v9 d9 r9) = 1 + sz l9 + sz r9 := rfl
    refine ⟨(0 + sz l9), by omega, ?_⟩
    exact ⟨c9, l9, k9, v9, d9, r9, h25.sub ⟨rfl, trivial⟩, rfl, by first | rfl | exact (lmT_nd (by rfl)).symm.trans (by assumption : lmT (Tm.nd c (Tm.nd c9 l9 k9 v9 d9 r9) ck cv cd cr) = lmT (Tm.nd b l k v d r)), by first | (simp [bk]; done) | exact (by assumption : ∀ q ∈ bk (Tm.nd c9 l9 k9 v9 d9 r9), q ∈ bk (Tm.nd b l k v d r)) c9 (by simp [bk]), by first | exact fun q hq => (by assumption : ∀ q ∈ bk (Tm.nd c9 l9 k9 v9 d9 r9), q ∈ bk (Tm.nd b l k v d r)) q (by simp [bk, hq]) | exact fun q hq => by simp [bk, hq], hf10.1, hf10.2.1, rfl⟩
end Go.Proofs.Ytfjhlckklgeokaa
