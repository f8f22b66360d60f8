/- Pages of a scan. Conditions: none. -/
import Derived.Test.YtfjhlckklgeokaaMvH
import Derived.Test.YtfjhlckklgeokaaKeysG
namespace Go.Proofs.Ytfjhlckklgeokaa
open Go.RowKit Go.PlainAid
set_option linter.unusedVariables false
set_option linter.unusedSimpArgs false


theorem row_kept_off {w x : World} {B sz k : Nat} {e : TypeId} {v v' : Value} {xs : List Value} (h : w.ownsRow B e sz v k xs) (ha : ∀ i, v.ownBlock = some i → v'.ownBlock ≠ some i) (hg : w.grownBy x v'.ownBlock) : x.ownsRow B e sz v k xs := row_sameL h fun i hi => hg.block i (h.lt i hi).2 (fun e => ha i hi e.symm)
theorem klt_data {a b : ByteArray} : klt a b = Op.bytesLess a.data.toList b.data.toList := by unfold klt; rw [Go.ByteArray.toList_eq, Go.ByteArray.toList_eq]
def nextB (q : ByteArray) : ByteArray := ⟨(nextL q.data.toList).toArray⟩
theorem le_klt {a b : ByteArray} (h : le a.data.toList b.data.toList = true) : klt a b = true ∨ a = b := by
  unfold le at h
  rw [Bool.or_eq_true] at h
  rcases h with h | h
  · exact .inl (by rw [klt_data]; exact h)
  · exact .inr (Go.WideShapes.bytes_inj (by simpa using h))
/-- What is not below the next of q is above q. -/
theorem next_iff {q x y : ByteArray} (hy : y.size ≤ 8) (hqy : klt q y = true) (hx : x.size ≤ 8) : klt x (nextB q) = !(klt q x) := by
  have hs := nx_spec 8 q.data.toList
  cases hn : nx 8 q.data.toList with
  | none =>
    rw [hn] at hs
    have := le_not _ _ (hs y.data.toList (by simpa using hy))
    rw [← klt_data, hqy] at this; cases this
  | some n =>
    rw [hn] at hs
    obtain ⟨-, -, h3, h4⟩ := hs
    have e : (nextB q).data.toList = n := by unfold nextB nextL; rw [hn]; simp
    have h5 : klt q (nextB q) = true := by rw [klt_data, e]; exact h3
    rcases h4 x.data.toList (by simpa using hx) with h | h
    · have h6 := le_not _ _ h
      rw [← klt_data] at h6
      rw [h6]
      rcases le_klt h with h7 | rfl
      · exact klt_tr h7 h5
      · exact h5
    · have h6 := le_not _ _ h
      rw [← e, ← klt_data] at h6
      rw [h6]
      rcases le_klt (a := nextB q) (b := x) (by rw [e]; exact h) with h7 | h7
      · rw [klt_tr h5 h7]; rfl
      · rw [← h7, h5]; rfl
theorem mem_drop_up {A : List ByteArray} (hA : Kup A) {s : Nat} (hs : 0 < s) {q x : ByteArray} (hq : A[s - 1]? = some q) : x ∈ A.drop s ↔ x ∈ A ∧ klt q x = true := by
  obtain ⟨h1, h2⟩ := List.getElem?_eq_some_iff.1 hq
  have hp := List.pairwise_iff_getElem.1 hA
  constructor
  · intro hx
    obtain ⟨j, hj, e⟩ := List.mem_iff_getElem.1 hx
    rw [List.length_drop] at hj
    rw [List.getElem_drop] at e
    refine ⟨List.mem_of_mem_drop hx, ?_⟩
    rw [← h2, ← e]; exact hp (s - 1) (s + j) h1 (by omega) (by omega)
  · rintro ⟨hx, hk⟩
    obtain ⟨j, hj, e⟩ := List.mem_iff_getElem.1 hx
    by_cases hjs : s ≤ j
    · exact List.mem_iff_getElem.2 ⟨j - s, by rw [List.length_drop]; omega, by rw [List.getElem_drop]; rw [← e]; congr 1; omega⟩
    · exfalso
      rw [← h2, ← e] at hk
      by_cases hj2 : j = s - 1
      · subst hj2; rw [klt_irr] at hk; cases hk
      · have := klt_as (hp j (s - 1) hj h1 (by omega)); rw [this] at hk; cases hk
section
variable {f : Fv} {t la : Int} {K : List ByteArray} {F T : ByteArray} {n : Nat} {y : PairT}
theorem page (hK : Kup K) (h8 : ∀ x ∈ K, x.size ≤ 8) {s : Nat} (hs : 0 < s) (hl : s < (hits f t (K.filter (inR F T))).length) (hy : (hits f t (K.filter (inR F T)))[s - 1]? = some y) : (hits f t (K.filter (inR F T))).drop s = hits f t (K.filter (inR (nextB y.1) T)) := by
  unfold hits at hl hy ⊢
  obtain ⟨A, hA⟩ : ∃ A, A = (K.filter (inR F T)).filter (fun k => (atS (f k) t).2) := ⟨_, rfl⟩
  rw [← hA] at hl hy ⊢
  rw [List.length_map] at hl
  rw [List.getElem?_map, Option.map_eq_some_iff] at hy
  obtain ⟨q, hq, rfl⟩ := hy
  have hAu : Kup A := by rw [hA]; exact (hK.sublist List.filter_sublist).sublist List.filter_sublist
  have hmA : ∀ x, x ∈ A ↔ (x ∈ K ∧ inR F T x = true) ∧ (atS (f x) t).2 = true := fun x => by rw [hA, List.mem_filter, List.mem_filter]
  have hqA : q ∈ A := List.mem_of_getElem? hq
  have hz : A[s] ∈ A.drop s := List.mem_iff_getElem.2 ⟨0, by rw [List.length_drop]; omega, by rw [List.getElem_drop]; rfl⟩
  obtain ⟨hz1, hz2⟩ := (mem_drop_up hAu hs hq).1 hz
  have hz8 := h8 _ ((hmA _).1 hz1).1.1
  rw [← List.map_drop]
  congr 1
  refine up_ext (key := fun x => x) (hAu.sublist (List.drop_sublist _ _)) ((hK.sublist List.filter_sublist).sublist List.filter_sublist) fun x => ?_
  rw [mem_drop_up hAu hs hq, hmA, List.mem_filter, List.mem_filter]
  have hqF : klt q F = false := by have := ((hmA q).1 hqA).1.2; unfold inR at this; simp only [Bool.and_eq_true, Bool.not_eq_true'] at this; exact this.1
  constructor
  · rintro ⟨⟨⟨h1, h2⟩, h3⟩, h4⟩
    refine ⟨⟨h1, ?_⟩, h3⟩
    unfold inR at h2 ⊢
    rw [next_iff hz8 hz2 (h8 x h1), h4]
    simp only [Bool.and_eq_true] at h2 ⊢; exact ⟨rfl, h2.2⟩
  · rintro ⟨⟨h1, h2⟩, h3⟩
    unfold inR at h2
    rw [next_iff hz8 hz2 (h8 x h1)] at h2
    simp only [Bool.not_not, Bool.and_eq_true] at h2
    refine ⟨⟨⟨h1, ?_⟩, h3⟩, h2.1⟩
    unfold inR
    have : klt x F = false := by
      cases hx : klt x F with
      | false => rfl
      | true => have := klt_tr h2.1 hx; rw [hqF] at this; cases this
    rw [this, h2.2]; rfl
/-- Keys have one byte to eight. -/
def KeyOk (f : Fv) : Prop := ∀ x, f x ≠ [] → 1 ≤ x.size ∧ x.size ≤ 8
theorem keyOk_0 : KeyOk (fun _ => []) := fun x h => absurd rfl h
theorem keyOk_mv (h : KeyOk f) (la ts : Int) (l : List OpT) : KeyOk (mvF f la ts l) := by
  unfold mvF
  by_cases hE : mvE la ts l = 0
  · obtain ⟨h1, h2, h3⟩ := mv_good hE
    rw [if_pos hE]
    intro x hx
    rcases putsF_at (f := f) (ts := ts) (chkB_up h3) x with e | ⟨o, ho, hk, e⟩
    · rw [e] at hx; exact h x hx
    · rw [← hk]; exact (chkB_all h3 o ho).1
  · rw [if_neg hE]; exact h
theorem ks_0 : ksOf (fun _ => []) = [] := ksOf_eq ⟨List.Pairwise.nil, by simp⟩
theorem hits_len : (hitsF f t F T).length ≤ (ksOf f).length := by
  unfold hitsF hits; rw [List.length_map]; exact Nat.le_trans (List.length_filter_le _ _) (List.length_filter_le _ _)
theorem hits_key (hk : KeyOk f) (hK : KOf (ksOf f) f) (h : y ∈ hitsF f t F T) : y.1.size ≤ 8 := by
  unfold hitsF hits at h
  obtain ⟨k, hk1, rfl⟩ := List.mem_map.1 h
  have := List.mem_filter.1 (List.mem_filter.1 hk1).1
  exact (hk k ((hK.mem k).1 this.1)).2
theorem pageF (hk : KeyOk f) (hK : KOf (ksOf f) f) {z : Int} (hz : 0 < z) (hl : scanM (hitsF f t F T) z = true) (hy : (scanL (hitsF f t F T) z)[z.toNat - 1]? = some y) : hitsF f t F T = scanL (hitsF f t F T) z ++ hitsF f t (nextB y.1) T ∧ (scanL (hitsF f t F T) z).length = z.toNat := by
  have hl' : z.toNat < (hitsF f t F T).length := of_decide_eq_true hl
  have hy' : (hitsF f t F T)[z.toNat - 1]? = some y := by
    unfold scanL at hy; rw [List.getElem?_take, if_pos (by omega)] at hy; exact hy
  refine ⟨?_, by unfold scanL; rw [List.length_take]; omega⟩
  have := page (f := f) (t := t) hK.up (fun x hx => (hk x ((hK.mem x).1 hx)).2) (show 0 < z.toNat by omega) hl' hy'
  show hitsF f t F T = (hitsF f t F T).take z.toNat ++ hitsF f t (nextB y.1) T
  rw [show hitsF f t (nextB y.1) T = (hitsF f t F T).drop z.toNat from this.symm, List.take_append_drop]
theorem scan_len {H : List PairT} {z : Int} (h : scanM H z = true) (hz : 0 < z) : ((scanL H z).length : Int) = z := by
  have : z.toNat < H.length := of_decide_eq_true h
  unfold scanL; rw [List.length_take]; omega
theorem scan_lenle {H : List PairT} {z : Int} : (scanL H z).length ≤ H.length := by unfold scanL; rw [List.length_take]; omega
theorem scan_last {H : List PairT} {z : Int} (h : scanM H z = false) : scanL H z = H := List.take_of_length_le (by have := of_decide_eq_false h; omega)
theorem scan_whole {H : List PairT} (h : H.length ≤ 1000) : scanL H 1000 = H := List.take_of_length_le (by simpa using h)
end
theorem mvPut2 {S : Nat → Prop} {b m : Nat} {f : Fv} {la ce : Int} (w : World) (ts : Int) (v : Value) (l : List OpT) (h : MvO S w b f la ce m) (hs : SliceOf opE 3 w v l) (hvS : l ≠ [] → ∀ k, v.ownBlock = some k → ¬ S k) (hl : l.length ≤ 20) (hts : 0 ≤ ts ∧ ts < 18446744073709551616) (hm : m ≤ 100) :
    Calls Try.prog 11 #[pt b 0, .int .u64 ts, v] w fun e w' => ∃ S' : Nat → Prop, e = .returned (.int .i64 (mvE la ts l)) ∧ MvO S' w' b (mvF f la ts l) (mvLa la ts l) (mvCe la ts ce l) (m + 1) ∧ (ksOf (mvF f la ts l)).length ≤ (ksOf f).length + 4 ∧ Grew S S' w w' := by
  obtain ⟨tb, S1, K, h1, h2, h3, h4, h5, h6, h7, h8⟩ := h
  refine (mput_blk S1 b tb K f la ce m ts v l w h1 h2 h3 h5 (by omega) h6 (by omega) hs (fun hn k hk hq => hvS hn k hk ((h4 k).2 hq)) hts (by omega) hl).mono ?_
  rintro e w' ⟨S', K', rfl, k1, k2, k3, k4, k5, k6⟩
  refine ⟨fun q => q = b ∨ S' q, rfl, ⟨tb, S', K', k1, k2, k4, fun q => Iff.rfl, h5.mv hts, (mvLa_bd h6 hts).1, by omega, ?_⟩, ?_, fun q hq => ?_, k6.mono fun q _ hq => (h4 q).2 hq⟩
  · unfold mvCe; split <;> omega
  · by_cases hE : mvE la ts l = 0
    · rw [ksOf_eq k2.kof, ksOf_eq h2.kof]; have := (chkB_ok (mv_good hE).2.2).2.2.1; omega
    · unfold mvF; rw [if_neg hE]; omega
  · rcases hq with rfl | hq
    · exact .inl ((h4 _).2 (.inl rfl))
    · rcases k3 q hq with k | k
      · exact .inl ((h4 q).2 k)
      · exact .inr k
section
variable {P : Program} {n : Nat} {m : List (Nat × Value)} {o : Oper} {w : World}
theorem rn_remA {T T' : TypeId} {x y : Operand} {k : IntKind} {i j z : Int} (ho : o.op = .binOp .rem T x y T') (hx : ev m x = some (.int k i)) (hy : ev m y = some (.int k j)) (hj : j ≠ 0) (hcl : binOp .rem T (.int k i) (.int k j) = Op.intDiv .rem k i j) (hz : i.tmod j = z) : (execOp (lk m) o).run P w = .ok (.value (.int k z)) w := by
  unfold execOp
  have hg : (eqGuard .rem T x y (.int k i) (.int k j)).run P w = .ok () w := by unfold eqGuard; rfl
  subst hz
  simp only [ho, lk_ev hx, lk_ev hy, Sem.run_bind, hg, hcl, Op.intDiv, hj, if_false, Result.andThen_ok]
  rfl
end
theorem rem_in {i j : Int} (h : 0 ≤ i) (hj : 0 < j) : 0 ≤ i.tmod j ∧ i.tmod j < j := ⟨Int.tmod_nonneg j h, Int.tmod_lt_of_pos i hj⟩

end Go.Proofs.Ytfjhlckklgeokaa
