/- Package disk, pure: what holds of a disk's state behind writes, a sync, a crash. Conditions: none. -/
import Derived.Test.YtcnahhobppnbbaaDiskD
namespace Go.Proofs.Ytcnahhobppnbbaa
open Go.RowKit

/-- What is told of a file's pieces. -/
def sumK (ps : List PcT) (k : Int) : Int := ps.foldl (fun n p => if p.1 = k then n + p.2 else n) 0
theorem sumK_from (k : Int) : ∀ (ps : List PcT) (n : Int), ps.foldl (fun n p => if p.1 = k then n + p.2 else n) n = n + sumK ps k
  | [], n => by simp [sumK]
  | p :: r, n => by
    unfold sumK
    simp only [List.foldl_cons]
    by_cases e : p.1 = k
    · rw [if_pos e, if_pos e, sumK_from k r, sumK_from k r]; omega
    · rw [if_neg e, if_neg e, sumK_from k r, sumK_from k r]; omega
theorem sumK_cons (p : PcT) (r : List PcT) (k : Int) : sumK (p :: r) k = (if p.1 = k then p.2 else 0) + sumK r k := by
  conv => lhs; unfold sumK
  simp only [List.foldl_cons]
  by_cases e : p.1 = k
  · rw [if_pos e, if_pos e, sumK_from]; omega
  · rw [if_neg e, if_neg e, sumK_from]
theorem sumP_from : ∀ (ps : List PcT) (n : Int), ps.foldl (fun n p => n + p.2) n = n + sumP ps
  | [], n => by simp [sumP]
  | p :: r, n => by
    unfold sumP
    simp only [List.foldl_cons]
    rw [sumP_from r, sumP_from r]; omega
theorem sumP_cons (p : PcT) (r : List PcT) : sumP (p :: r) = p.2 + sumP r := by
  conv => lhs; unfold sumP
  simp only [List.foldl_cons]
  rw [sumP_from]; omega
theorem sumK_app (k : Int) : ∀ (a b : List PcT), sumK (a ++ b) k = sumK a k + sumK b k
  | [], b => by simp [sumK]
  | p :: r, b => by rw [List.cons_append, sumK_cons, sumK_cons, sumK_app k r b]; omega
theorem sumP_app : ∀ (a b : List PcT), sumP (a ++ b) = sumP a + sumP b
  | [], b => by simp [sumP]
  | p :: r, b => by rw [List.cons_append, sumP_cons, sumP_cons, sumP_app r b]; omega
theorem sumK_nn {ps : List PcT} (h : ∀ p ∈ ps, 0 ≤ p.2) (k : Int) : 0 ≤ sumK ps k := by
  induction ps with
  | nil => simp [sumK]
  | cons p r ih =>
    rw [sumK_cons]
    have h1 := h p (by simp); have h2 := ih (fun q hq => h q (by simp [hq]))
    split <;> omega
theorem sumP_nn {ps : List PcT} (h : ∀ p ∈ ps, 0 ≤ p.2) : 0 ≤ sumP ps := by
  induction ps with
  | nil => simp [sumP]
  | cons p r ih =>
    rw [sumP_cons]
    have h1 := h p (by simp); have h2 := ih (fun q hq => h q (by simp [hq]))
    omega
theorem sumP_take {ps : List PcT} (h : ∀ p ∈ ps, 0 ≤ p.2) (i : Nat) : 0 ≤ sumP (ps.take i) ∧ sumP (ps.take i) ≤ sumP ps := by
  have e : sumP ps = sumP (ps.take i) + sumP (ps.drop i) := by rw [← sumP_app, List.take_append_drop]
  have h1 := sumP_nn (ps := ps.take i) (fun p hp => h p (List.mem_of_mem_take hp))
  have h2 := sumP_nn (ps := ps.drop i) (fun p hp => h p (List.mem_of_mem_drop hp))
  omega
/-- What a crash keeps of each piece. -/
def keptL : Int → List PcT → List PcT
  | _, [] => []
  | l, p :: r => (p.1, if l < p.2 then l else p.2) :: keptL (l - if l < p.2 then l else p.2) r
theorem kept_nn : ∀ (ps : List PcT) (l : Int), 0 ≤ l → (∀ p ∈ ps, 0 ≤ p.2) → ∀ p ∈ keptL l ps, 0 ≤ p.2
  | [], _, _, _, _, hq => by cases hq
  | p :: r, l, hl, h, q, hq => by
    have h1 := h p (by simp)
    unfold keptL at hq
    rcases List.mem_cons.1 hq with rfl | hq
    · show 0 ≤ if l < p.2 then l else p.2
      split <;> omega
    · exact kept_nn r _ (by split <;> omega) (fun z hz => h z (by simp [hz])) q hq
theorem kept_le (k : Int) : ∀ (ps : List PcT) (l : Int), 0 ≤ l → (∀ p ∈ ps, 0 ≤ p.2) → sumK (keptL l ps) k ≤ sumK ps k
  | [], _, _, _ => by simp [keptL]
  | p :: r, l, hl, h => by
    have h1 := h p (by simp)
    unfold keptL
    rw [sumK_cons, sumK_cons]
    have ih := kept_le k r (l - if l < p.2 then l else p.2) (by split <;> omega) (fun z hz => h z (by simp [hz]))
    show (if p.1 = k then (if l < p.2 then l else p.2) else 0) + _ ≤ _
    have : (if p.1 = k then (if l < p.2 then l else p.2) else 0) ≤ (if p.1 = k then p.2 else 0) := by
      by_cases q : p.1 = k
      · rw [if_pos q, if_pos q]; split <;> omega
      · rw [if_neg q, if_neg q]; omega
    omega
theorem kept_sum : ∀ (ps : List PcT) (l : Int), 0 ≤ l → (∀ p ∈ ps, 0 ≤ p.2) → sumP (keptL l ps) ≤ l ∧ sumP (keptL l ps) ≤ sumP ps
  | [], l, hl, _ => by simp [keptL, sumP]; omega
  | p :: r, l, hl, h => by
    have h1 := h p (by simp)
    unfold keptL
    rw [sumP_cons, sumP_cons]
    have ih := kept_sum r (l - if l < p.2 then l else p.2) (by split <;> omega) (fun z hz => h z (by simp [hz]))
    show (if l < p.2 then l else p.2) + _ ≤ _ ∧ (if l < p.2 then l else p.2) + _ ≤ _
    split at ih <;> rename_i hq
    · rw [if_pos hq]; omega
    · rw [if_neg hq]; omega
theorem getF_put (fm : Int → Option FileM) (a : Int) (m : FileM) (k : Int) : getF (putF fm a m) k = if k = a then m else getF fm k := by
  unfold getF putF; by_cases e : k = a <;> simp [e]
/-- What a crash's run comes to. -/
theorem cr_all : ∀ (ps : List PcT) (X : Int × Bool × (Int → Option FileM)), 0 ≤ X.1 → (∀ p ∈ ps, 0 ≤ p.2) →
    (ps.foldl crStep X).1 = X.1 - sumP (keptL X.1 ps) ∧ ∀ k, (getF (ps.foldl crStep X).2.2 k).1 = (getF X.2.2 k).1 ∧ (getF (ps.foldl crStep X).2.2 k).2.1 = (getF X.2.2 k).2.1 + sumK (keptL X.1 ps) k ∧ ((getF X.2.2 k).2.2 = true → (getF (ps.foldl crStep X).2.2 k).2.2 = true)
  | [], X, _, _ => by simp [keptL, sumP, sumK]
  | p :: r, X, hX, h => by
    have h1 := h p (by simp)
    have e1 : (crStep X p).1 = X.1 - if X.1 < p.2 then X.1 else p.2 := rfl
    have e3 : (crStep X p).2.2 = if 0 < (if X.1 < p.2 then X.1 else p.2) ∨ (p.2 = 0 ∧ X.2.1 = true) then putF X.2.2 p.1 ((getF X.2.2 p.1).1, (getF X.2.2 p.1).2.1 + (if X.1 < p.2 then X.1 else p.2), true) else X.2.2 := rfl
    obtain ⟨kp, hkp⟩ : ∃ z : Int, z = if X.1 < p.2 then X.1 else p.2 := ⟨_, rfl⟩
    have hk0 : 0 ≤ kp ∧ kp ≤ X.1 := by rw [hkp]; split <;> omega
    obtain ⟨i1, i2⟩ := cr_all r (crStep X p) (by rw [e1, ← hkp]; omega) (fun z hz => h z (by simp [hz]))
    rw [List.foldl_cons]
    unfold keptL
    rw [sumP_cons]
    rw [e1] at i1 i2
    rw [← hkp] at i1 i2 e3 ⊢
    refine ⟨by rw [i1]; show _ = X.1 - (kp + _); omega, fun k => ?_⟩
    obtain ⟨j1, j2, j3⟩ := i2 k
    rw [sumK_cons]
    have hg : getF (crStep X p).2.2 k = if k = p.1 ∧ (0 < kp ∨ (p.2 = 0 ∧ X.2.1 = true)) then ((getF X.2.2 p.1).1, (getF X.2.2 p.1).2.1 + kp, true) else getF X.2.2 k := by
      rw [e3]
      by_cases hc : 0 < kp ∨ (p.2 = 0 ∧ X.2.1 = true)
      · rw [if_pos hc, getF_put]
        by_cases e : k = p.1
        · rw [if_pos e, if_pos ⟨e, hc⟩]
        · rw [if_neg e, if_neg (fun q => e q.1)]
      · rw [if_neg hc, if_neg (fun q => hc q.2)]
    rw [hg] at j1 j2 j3
    show _ ∧ _ = _ + ((if p.1 = k then kp else 0) + _) ∧ _
    by_cases e : k = p.1
    · subst e
      rw [if_pos rfl]
      by_cases hc : 0 < kp ∨ (p.2 = 0 ∧ X.2.1 = true)
      · rw [if_pos ⟨rfl, hc⟩] at j1 j2 j3
        exact ⟨j1, by rw [j2]; show (getF X.2.2 p.1).2.1 + kp + _ = _; omega, fun _ => j3 rfl⟩
      · rw [if_neg (fun q => hc q.2)] at j1 j2 j3
        exact ⟨j1, by rw [j2]; omega, j3⟩
    · rw [if_neg (fun q => e q.1)] at j1 j2 j3
      rw [if_neg (fun q => e q.symm)]
      exact ⟨j1, by rw [j2]; omega, j3⟩
def mx0 (n : Int) : Int := if n < 0 then 0 else n
theorem mx0_nn (n : Int) : 0 ≤ mx0 n := by unfold mx0; split <;> omega
theorem crRun_all {n : Int} {fm : Int → Option FileM} {ps : List PcT} (h : ∀ p ∈ ps, 0 ≤ p.2) :
    (crRun n fm ps).1 = mx0 n - sumP (keptL (mx0 n) ps) ∧ ∀ k, (getF (crRun n fm ps).2.2 k).1 = (getF fm k).1 ∧ (getF (crRun n fm ps).2.2 k).2.1 = (getF fm k).2.1 + sumK (keptL (mx0 n) ps) k ∧ ((getF fm k).2.2 = true → (getF (crRun n fm ps).2.2 k).2.2 = true) :=
  cr_all ps (mx0 n, true, fm) (mx0_nn n) h
/-- What holds of a disk's state behind m writes of at most 1048576 bytes each. -/
structure DkI (s : DkS) (m : Nat) : Prop where
  len : ∀ k, ((getF s.fm k).1.length : Int) ≤ m * 1048576
  pos : ∀ p ∈ s.ps, 0 ≤ p.2
  sum : ∀ k, (getF s.fm k).2.1 + sumK s.ps k = ((getF s.fm k).1.length : Int)
  saf : ∀ k, 0 ≤ (getF s.fm k).2.1
  tot : sumP s.ps ≤ m * 1048576
  pl : s.ps.length ≤ m
  cov : ∀ k, (s.fm k).isSome = true → (getF s.fm k).2.2 = true ∨ ∃ p ∈ s.ps, p.1 = k
theorem s0_I : DkI s0D 0 := ⟨fun k => by simp [s0D, getF, mz], fun p hp => (by cases hp), fun k => by simp [s0D, getF, mz, sumK], fun k => by simp [s0D, getF, mz], by simp [s0D, sumP], by simp [s0D], fun k h => by simp [s0D] at h⟩
theorem DkI.up {s : DkS} {m m' : Nat} (h : DkI s m) (hm : m ≤ m') : DkI s m' :=
  ⟨fun k => by have := h.len k; omega, h.pos, h.sum, h.saf, by have := h.tot; omega, by have := h.pl; omega, h.cov⟩
theorem size_bytes (t : ByteArray) : t.data.toList.length = t.size := rfl
theorem DkI.write {s : DkS} {m : Nat} (h : DkI s m) (n : Int) (t : ByteArray) (ht : t.size ≤ 1048576) : DkI (wrS s n t) (m + 1) := by
  unfold wrS
  by_cases he : wrE n = 0
  · rw [if_pos he]
    refine ⟨fun k => ?_, fun p hp => ?_, fun k => ?_, fun k => ?_, ?_, ?_, fun k hk => ?_⟩
    · have hl := h.len k
      show ((getF (putF s.fm n _) k).1.length : Int) ≤ _
      rw [getF_put]
      by_cases e : k = n
      · subst e; rw [if_pos rfl]; simp only [List.length_append, size_bytes]; omega
      · rw [if_neg e]; omega
    · rcases List.mem_append.1 hp with hp | hp
      · exact h.pos p hp
      · simp at hp; subst hp; show (0 : Int) ≤ (t.size : Int); omega
    · have hs := h.sum k
      show (getF (putF s.fm n _) k).2.1 + sumK (s.ps ++ [(n, (t.size : Int))]) k = ((getF (putF s.fm n _) k).1.length : Int)
      rw [getF_put, sumK_app, sumK_cons]
      by_cases e : k = n
      · subst e; rw [if_pos rfl, if_pos rfl]; simp only [List.length_append, size_bytes, sumK, List.foldl_nil] at *; omega
      · rw [if_neg e, if_neg (fun q => e q.symm)]; simp only [sumK, List.foldl_nil] at *; omega
    · show 0 ≤ (getF (putF s.fm n _) k).2.1
      rw [getF_put]
      by_cases e : k = n
      · rw [if_pos e]; exact h.saf n
      · rw [if_neg e]; exact h.saf k
    · have := h.tot
      show sumP (s.ps ++ [(n, (t.size : Int))]) ≤ _
      rw [sumP_app, sumP_cons]; simp only [sumP, List.foldl_nil] at *; omega
    · have := h.pl
      show (s.ps ++ [(n, (t.size : Int))]).length ≤ m + 1
      simp; omega
    · by_cases e : k = n
      · exact .inr ⟨(n, (t.size : Int)), by simp, e.symm⟩
      · have hk' : (s.fm k).isSome = true := by
          have : putF s.fm n ((getF s.fm n).1 ++ t.data.toList, (getF s.fm n).2) k = s.fm k := by unfold putF; rw [if_neg e]
          rw [← this]; exact hk
        rcases h.cov k hk' with q | ⟨p, hp, q⟩
        · left; show (getF (putF s.fm n _) k).2.2 = true; rw [getF_put, if_neg e]; exact q
        · exact .inr ⟨p, by simp [hp], q⟩
  · rw [if_neg he]; exact h.up (by omega)
theorem syn_get : ∀ (ps : List PcT) (fm : Int → Option FileM) (k : Int), (getF (synF fm ps) k).1 = (getF fm k).1 ∧ ((∃ p ∈ ps, p.1 = k) → (getF (synF fm ps) k).2 = (((getF fm k).1.length : Int), true)) ∧ ((¬ ∃ p ∈ ps, p.1 = k) → (getF (synF fm ps) k).2 = (getF fm k).2 ∧ synF fm ps k = fm k)
  | [], fm, k => by simp [synF]
  | p :: r, fm, k => by
    have e : synF fm (p :: r) = synF (putF fm p.1 ((getF fm p.1).1, ((getF fm p.1).1.length : Int), true)) r := rfl
    obtain ⟨i1, i2, i3⟩ := syn_get r (putF fm p.1 ((getF fm p.1).1, ((getF fm p.1).1.length : Int), true)) k
    rw [e]
    rw [getF_put] at i1 i2 i3
    by_cases ek : k = p.1
    · subst ek
      rw [if_pos rfl] at i1 i2 i3
      refine ⟨i1, fun _ => ?_, fun hn => absurd ⟨p, by simp, rfl⟩ hn⟩
      by_cases hr : ∃ q ∈ r, q.1 = p.1
      · exact i2 hr
      · exact (i3 hr).1
    · rw [if_neg ek] at i1 i2 i3
      refine ⟨i1, fun ⟨q, hq, e2⟩ => ?_, fun hn => ?_⟩
      · rcases List.mem_cons.1 hq with rfl | hq
        · exact absurd e2.symm ek
        · exact i2 ⟨q, hq, e2⟩
      · have h3 := i3 (fun ⟨q, hq, e2⟩ => hn ⟨q, by simp [hq], e2⟩)
        refine ⟨h3.1, h3.2.trans ?_⟩
        unfold putF; rw [if_neg ek]
theorem sumK_0 {ps : List PcT} {k : Int} (h : ¬ ∃ p ∈ ps, p.1 = k) : sumK ps k = 0 := by
  induction ps with
  | nil => simp [sumK]
  | cons p r ih =>
    rw [sumK_cons, if_neg (fun e => h ⟨p, by simp, e⟩), ih (fun ⟨q, hq, e⟩ => h ⟨q, by simp [hq], e⟩)]; rfl
/-- Behind a sync all is safe. -/
theorem DkI.sync {s : DkS} {m : Nat} (h : DkI s m) : DkI (synS s) m ∧ (∀ k, (getF (synS s).fm k).1 = (getF s.fm k).1) ∧ (∀ k, (getF (synS s).fm k).2.1 = ((getF s.fm k).1.length : Int)) ∧ ∀ k, ((synS s).fm k).isSome = true → (getF (synS s).fm k).2.2 = true := by
  have key : ∀ k, (getF (synF s.fm s.ps) k).2.1 = ((getF s.fm k).1.length : Int) := by
    intro k
    obtain ⟨i1, i2, i3⟩ := syn_get s.ps s.fm k
    by_cases hr : ∃ q ∈ s.ps, q.1 = k
    · rw [i2 hr]
    · rw [(i3 hr).1]; have := h.sum k; rw [sumK_0 hr] at this; omega
  have key1 : ∀ k, (getF (synF s.fm s.ps) k).1 = (getF s.fm k).1 := fun k => (syn_get s.ps s.fm k).1
  have key2 : ∀ k, (synF s.fm s.ps k).isSome = true → (getF (synF s.fm s.ps) k).2.2 = true := by
    intro k hk
    obtain ⟨i1, i2, i3⟩ := syn_get s.ps s.fm k
    by_cases hr : ∃ q ∈ s.ps, q.1 = k
    · rw [i2 hr]
    · rw [(i3 hr).1]
      rcases h.cov k (by rw [← (i3 hr).2]; exact hk) with q | q
      · exact q
      · exact absurd q hr
  refine ⟨⟨fun k => ?_, fun p hp => (by cases hp), fun k => ?_, fun k => ?_, ?_, ?_, fun k hk => .inl (key2 k hk)⟩, key1, key, key2⟩
  · show ((getF (synF s.fm s.ps) k).1.length : Int) ≤ _; rw [key1]; exact h.len k
  · show (getF (synF s.fm s.ps) k).2.1 + sumK [] k = ((getF (synF s.fm s.ps) k).1.length : Int); rw [key, key1]; simp [sumK]
  · show 0 ≤ (getF (synF s.fm s.ps) k).2.1; rw [key]; omega
  · show sumP [] ≤ _; simp [sumP]; omega
  · show ([] : List PcT).length ≤ m; simp
section
variable {s : DkS} {m : Nat}
theorem DkI.hsz (h : DkI s m) (hm : m ≤ 900) (n : Int) {t : ByteArray} (ht : t.size ≤ 1048576) : (getF s.fm n).1.length + t.size ≤ 1000000000 := by
  have := h.len n; omega
theorem DkI.hpl (h : DkI s m) (hm : m ≤ 900) : s.ps.length ≤ 100000 := by have := h.pl; omega
theorem DkI.hsb (h : DkI s m) (hm : m ≤ 900) (i : Nat) : 0 ≤ sumP (s.ps.take i) ∧ sumP (s.ps.take i) ≤ 1000000000000 := by
  have h1 := sumP_take h.pos i; have h2 := h.tot; omega
theorem DkI.hcr (h : DkI s m) (hm : m ≤ 900) {n : Int} (hni : -9223372036854775808 ≤ n ∧ n ≤ 9223372036854775807) (i : Nat) (X : Int × Bool × (Int → Option FileM)) (p : PcT) (hX : crRun n s.fm (s.ps.take i) = X) (hp : s.ps[i]? = some p) :
    0 ≤ p.2 ∧ 0 ≤ X.1 ∧ 0 ≤ (getF X.2.2 p.1).2.1 ∧ (getF X.2.2 p.1).2.1 + p.2 ≤ 1000000000000 ∧ X.1 ≤ 9223372036854775807 := by
  have hpos : ∀ q ∈ s.ps.take i, 0 ≤ q.2 := fun q hq => h.pos q (List.mem_of_mem_take hq)
  obtain ⟨h1, h2⟩ := crRun_all (n := n) (fm := s.fm) hpos
  rw [hX] at h1 h2
  obtain ⟨_, j2, _⟩ := h2 p.1
  have k1 := kept_sum (s.ps.take i) (mx0 n) (mx0_nn n) hpos
  have k2 := kept_le p.1 (s.ps.take i) (mx0 n) (mx0_nn n) hpos
  have k3 := sumK_nn (kept_nn (s.ps.take i) (mx0 n) (mx0_nn n) hpos) p.1
  have k4 := sumP_nn (kept_nn (s.ps.take i) (mx0 n) (mx0_nn n) hpos)
  have hp0 := h.pos p (List.mem_of_getElem? hp)
  have hsf := h.saf p.1; have hsm := h.sum p.1; have hln := h.len p.1
  have e : s.ps = s.ps.take i ++ p :: s.ps.drop (i + 1) := by
    obtain ⟨hi, rfl⟩ := List.getElem?_eq_some_iff.1 hp
    rw [← List.drop_eq_getElem_cons hi, List.take_append_drop]
  have k5 := sumK_nn (ps := s.ps.drop (i + 1)) (fun q hq => h.pos q (List.mem_of_mem_drop hq)) p.1
  have e2 : sumK s.ps p.1 = sumK (s.ps.take i) p.1 + (p.2 + sumK (s.ps.drop (i + 1)) p.1) := by
    conv => lhs; rw [e, sumK_app, sumK_cons, if_pos rfl]
  have hmx : mx0 n ≤ 9223372036854775807 := by unfold mx0; split <;> omega
  omega
theorem DkI.hfin (h : DkI s m) {n : Int} (k : Int) : 0 ≤ (getF (crRun n s.fm s.ps).2.2 k).2.1 ∧ (getF (crRun n s.fm s.ps).2.2 k).2.1 ≤ (getF (crRun n s.fm s.ps).2.2 k).1.length := by
  obtain ⟨h1, h2⟩ := crRun_all (n := n) (fm := s.fm) h.pos
  obtain ⟨j1, j2, _⟩ := h2 k
  rw [j1, j2]
  have k2 := kept_le k s.ps (mx0 n) (mx0_nn n) h.pos
  have k3 := sumK_nn (kept_nn s.ps (mx0 n) (mx0_nn n) h.pos) k
  have hsf := h.saf k; have hsm := h.sum k
  omega
end
end Go.Proofs.Ytcnahhobppnbbaa
