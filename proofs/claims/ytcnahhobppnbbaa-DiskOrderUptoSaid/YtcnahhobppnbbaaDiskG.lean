/- Package disk, pure: many writes, a crash, what was safe. Conditions: none. -/
import Derived.Test.YtcnahhobppnbbaaDiskE
namespace Go.Proofs.Ytcnahhobppnbbaa
open Go.RowKit

/-- An act: kind, file, text, number. -/
abbrev ActT := Int × Int × ByteArray × Int
def actE (a : ActT) : List Value := [.int .i64 a.1, .int .i64 a.2.1, .string a.2.2.1, .int .i64 a.2.2.2]
theorem actE_len (a : ActT) : (actE a).length = 4 := rfl
theorem actE_one (a : ActT) : ∀ u ∈ actE a, u.oneCell' = true := by intro u hu; simp [actE] at hu; rcases hu with rfl | rfl | rfl | rfl <;> rfl
def actOk (a : ActT) : Prop := (-9223372036854775808 ≤ a.2.1 ∧ a.2.1 ≤ 9223372036854775807) ∧ a.2.2.1.size ≤ 1048576 ∧ (-9223372036854775808 ≤ a.2.2.2 ∧ a.2.2.2 ≤ 9223372036854775807)
def wrAll (s : DkS) (l : List ActT) : DkS := l.foldl (fun s a => wrS s a.2.1 a.2.2.1) s
theorem wrAll_at {s : DkS} {l : List ActT} {i : Nat} {y : ActT} (h : l[i]? = some y) : wrAll s (l.take (i + 1)) = wrS (wrAll s (l.take i)) y.2.1 y.2.2.1 := by
  rw [takeD_at h]; unfold wrAll; rw [List.foldl_append]; rfl
theorem wrAll_I0 : ∀ (l : List ActT) {s : DkS} {m : Nat}, DkI s m → (∀ z ∈ l, actOk z) → DkI (wrAll s l) (m + l.length)
  | [], s, m, h, _ => h
  | a :: r, s, m, h, hok => by
    have := wrAll_I0 r (h.write a.2.1 a.2.2.1 (hok a (by simp)).2.1) (fun z hz => hok z (by simp [hz]))
    show DkI (wrAll (wrS s a.2.1 a.2.2.1) r) _
    rw [List.length_cons, show m + (r.length + 1) = m + 1 + r.length by omega]; exact this
theorem wrAll_I {s : DkS} {m : Nat} (h : DkI s m) {l : List ActT} (hok : ∀ z ∈ l, actOk z) (i : Nat) : DkI (wrAll s (l.take i)) (m + i) :=
  (wrAll_I0 (l.take i) h (fun z hz => hok z (List.mem_of_mem_take hz))).up (by have := List.length_take_le i l; omega)
theorem wrS_boots (s : DkS) (n : Int) (t : ByteArray) : (wrS s n t).boots = s.boots ∧ (wrS s n t).ser = s.ser := by unfold wrS; split <;> exact ⟨rfl, rfl⟩
theorem wrAll_boots : ∀ (l : List ActT) (s : DkS), (wrAll s l).boots = s.boots
  | [], _ => rfl
  | a :: r, s => (wrAll_boots r (wrS s a.2.1 a.2.2.1)).trans (wrS_boots s _ _).1
/-- A write keeps what was there. -/
structure Kept (s s' : DkS) (k : Int) : Prop where
  data : ∃ r, (getF s'.fm k).1 = (getF s.fm k).1 ++ r
  safe : (getF s'.fm k).2.1 = (getF s.fm k).2.1
  stay : (getF s.fm k).2.2 = true → (getF s'.fm k).2.2 = true
  some : (s.fm k).isSome = true → (s'.fm k).isSome = true
theorem Kept.refl (s : DkS) (k : Int) : Kept s s k := ⟨⟨[], by simp⟩, rfl, id, id⟩
theorem Kept.trans {a b c : DkS} {k : Int} (h : Kept a b k) (g : Kept b c k) : Kept a c k := by
  obtain ⟨r, hr⟩ := h.data; obtain ⟨q, hq⟩ := g.data
  exact ⟨⟨r ++ q, by rw [hq, hr, List.append_assoc]⟩, g.safe.trans h.safe, fun e => g.stay (h.stay e), fun e => g.some (h.some e)⟩
theorem wrS_kept (s : DkS) (n : Int) (t : ByteArray) (k : Int) : Kept s (wrS s n t) k := by
  unfold wrS
  by_cases he : wrE n = 0
  · rw [if_pos he]
    have e : getF (putF s.fm n ((getF s.fm n).1 ++ t.data.toList, (getF s.fm n).2)) k = if k = n then ((getF s.fm n).1 ++ t.data.toList, (getF s.fm n).2) else getF s.fm k := getF_put _ _ _ _
    by_cases ek : k = n
    · subst ek
      rw [if_pos rfl] at e
      refine ⟨⟨t.data.toList, by show (getF (putF s.fm k _) k).1 = _; rw [e]⟩, by show (getF (putF s.fm k _) k).2.1 = _; rw [e], fun h => by show (getF (putF s.fm k _) k).2.2 = true; rw [e]; exact h, fun _ => by show (putF s.fm k _ k).isSome = true; simp [putF]⟩
    · rw [if_neg ek] at e
      exact ⟨⟨[], by show (getF (putF s.fm n _) k).1 = _; rw [e]; simp⟩, by show (getF (putF s.fm n _) k).2.1 = _; rw [e], fun h => by show (getF (putF s.fm n _) k).2.2 = true; rw [e]; exact h, fun h => by show (putF s.fm n _ k).isSome = true; unfold putF; rw [if_neg ek]; exact h⟩
  · rw [if_neg he]; exact Kept.refl s k
theorem wrAll_kept (k : Int) : ∀ (l : List ActT) (s : DkS), Kept s (wrAll s l) k
  | [], s => Kept.refl s k
  | a :: r, s => (wrS_kept s _ _ k).trans (wrAll_kept k r (wrS s a.2.1 a.2.2.1))
theorem getF_tr (fm : Int → Option FileM) (k : Int) (hk : (fm k).isSome = true) (hs : (getF fm k).2.2 = true) : getF (trF fm) k = ((getF fm k).1.take (getF fm k).2.1.toNat, (getF fm k).2) ∧ (trF fm k).isSome = true := by
  unfold getF trF at *
  cases hf : fm k with
  | none => rw [hf] at hk; cases hk
  | some m => rw [hf] at hs; simp only [Option.getD_some] at hs; simp [trM, hs]
theorem putF_some {fm : Int → Option FileM} {a k : Int} {m : FileM} (h : (fm k).isSome = true) : (putF fm a m k).isSome = true := by
  unfold putF
  by_cases e : k = a
  · rw [if_pos e]; rfl
  · rw [if_neg e]; exact h
theorem cr_some (n : Int) : ∀ (ps : List PcT) (X : Int × Bool × (Int → Option FileM)) (k : Int), (X.2.2 k).isSome = true → ((ps.foldl crStep X).2.2 k).isSome = true
  | [], _, _, h => h
  | p :: r, X, k, h => by
    refine cr_some n r (crStep X p) k ?_
    have e3 : (crStep X p).2.2 = if 0 < (if X.1 < p.2 then X.1 else p.2) ∨ (p.2 = 0 ∧ X.2.1 = true) then putF X.2.2 p.1 ((getF X.2.2 p.1).1, (getF X.2.2 p.1).2.1 + (if X.1 < p.2 then X.1 else p.2), true) else X.2.2 := rfl
    obtain ⟨kp, hkp⟩ : ∃ z : Int, z = if X.1 < p.2 then X.1 else p.2 := ⟨_, rfl⟩
    rw [e3, ← hkp]
    by_cases hc : 0 < kp ∨ (p.2 = 0 ∧ X.2.1 = true)
    · rw [if_pos hc]; exact putF_some h
    · rw [if_neg hc]; exact h
/-- What a crash leaves of a file that stays. -/
theorem crash_at {s : DkS} {m : Nat} (h : DkI s m) (n : Int) (k : Int) (hk : (s.fm k).isSome = true) (hs : (getF s.fm k).2.2 = true) :
    (getF (crS s n).fm k).1 = (getF s.fm k).1.take ((getF s.fm k).2.1 + sumK (keptL (mx0 n) s.ps) k).toNat ∧ 0 ≤ sumK (keptL (mx0 n) s.ps) k ∧ (getF s.fm k).2.1 + sumK (keptL (mx0 n) s.ps) k ≤ (getF s.fm k).1.length := by
  obtain ⟨h1, h2⟩ := crRun_all (n := n) (fm := s.fm) h.pos
  obtain ⟨j1, j2, j3⟩ := h2 k
  have k2 := kept_le k s.ps (mx0 n) (mx0_nn n) h.pos
  have k3 := sumK_nn (kept_nn s.ps (mx0 n) (mx0_nn n) h.pos) k
  have hsf := h.saf k; have hsm := h.sum k
  have hg := (getF_tr (crRun n s.fm s.ps).2.2 k (cr_some n s.ps _ k hk) (j3 hs)).1
  refine ⟨?_, k3, by omega⟩
  show (getF (trF (crRun n s.fm s.ps).2.2) k).1 = _
  rw [hg, j1, j2]
theorem DkI.crash {s : DkS} {m : Nat} (h : DkI s m) (n : Int) : DkI (crS s n) m := by
  have hfin := fun k => h.hfin (n := n) k
  have key : ∀ k, getF (trF (crRun n s.fm s.ps).2.2) k = (if (getF (crRun n s.fm s.ps).2.2 k).2.2 = true then ((getF (crRun n s.fm s.ps).2.2 k).1.take (getF (crRun n s.fm s.ps).2.2 k).2.1.toNat, (getF (crRun n s.fm s.ps).2.2 k).2) else mz) := by
    intro k
    unfold getF trF
    cases (crRun n s.fm s.ps).2.2 k with
    | none => simp [mz]
    | some q => by_cases e : q.2.2 = true <;> simp [trM, e]
  have hl : ∀ k, ((getF (crRun n s.fm s.ps).2.2 k).1.length : Int) ≤ m * 1048576 := fun k => by
    rw [((crRun_all (n := n) (fm := s.fm) h.pos).2 k).1]; exact h.len k
  refine ⟨fun k => ?_, fun p hp => (by cases hp), fun k => ?_, fun k => ?_, ?_, ?_, fun k hk => .inl ?_⟩
  · show ((getF (trF (crRun n s.fm s.ps).2.2) k).1.length : Int) ≤ _
    have := hl k
    rw [key]; split
    · simp only [List.length_take]; omega
    · simp [mz]; omega
  · show (getF (trF (crRun n s.fm s.ps).2.2) k).2.1 + sumK [] k = ((getF (trF (crRun n s.fm s.ps).2.2) k).1.length : Int)
    have := hfin k
    rw [key]; split
    · simp only [List.length_take, sumK, List.foldl_nil]; omega
    · simp [mz, sumK]
  · show 0 ≤ (getF (trF (crRun n s.fm s.ps).2.2) k).2.1
    have := hfin k
    rw [key]; split
    · exact this.1
    · simp [mz]
  · show sumP [] ≤ _; simp [sumP]; omega
  · show ([] : List PcT).length ≤ m; simp
  · show (getF (trF (crRun n s.fm s.ps).2.2) k).2.2 = true
    have hk' : (trF (crRun n s.fm s.ps).2.2 k).isSome = true := hk
    rw [key]; split
    · assumption
    · rename_i hq
      exfalso
      unfold trF at hk'
      unfold getF at hq
      cases he : (crRun n s.fm s.ps).2.2 k with
      | none => rw [he] at hk'; cases hk'
      | some q => rw [he] at hk' hq; simp only [Option.getD_some] at hq; simp [trM, hq] at hk'
theorem datF_size (fm : Int → Option FileM) (k : Int) : (datF fm k).size = (getF fm k).1.length := by unfold datF; simp [ByteArray.size]
theorem extract_take (l : List UInt8) (j : Nat) (hj : j ≤ l.length) : (⟨l.toArray⟩ : ByteArray).extract 0 j = ⟨(l.take j).toArray⟩ := by
  apply ByteArray.ext
  simp [ByteArray.data_extract]
/-- What was safe is there, and a beginning of what came since. -/
theorem safe_at {sA : DkS} {m m2 : Nat} (hA : DkI sA m) {l : List ActT} (hC : DkI (wrAll (synS sA) l) m2) (n : Int) {y : Int} (hy : ((synS sA).fm y).isSome = true) :
    (((datF (crS (wrAll (synS sA) l) n).fm y).size : Nat) : Int) = (((datF (synS sA).fm y).size : Nat) : Int) + sumK (keptL (mx0 n) (wrAll (synS sA) l).ps) y ∧ 0 ≤ sumK (keptL (mx0 n) (wrAll (synS sA) l).ps) y ∧ (datF (crS (wrAll (synS sA) l) n).fm y).size ≤ (datF (wrAll (synS sA) l).fm y).size ∧
    datF (crS (wrAll (synS sA) l) n).fm y = (datF (wrAll (synS sA) l).fm y).extract 0 (datF (crS (wrAll (synS sA) l) n).fm y).size ∧ (datF (wrAll (synS sA) l).fm y).size ≤ m2 * 1048576 := by
  obtain ⟨_, d1, d2, d3⟩ := hA.sync
  have hK := wrAll_kept y l (synS sA)
  obtain ⟨c1, c2, c3⟩ := crash_at hC n y (hK.some hy) (hK.stay (d3 y hy))
  have e1 : (getF (wrAll (synS sA) l).fm y).2.1 = ((getF (synS sA).fm y).1.length : Int) := by rw [hK.safe, d2, d1]
  rw [e1] at c1 c3
  have hlen : (getF (crS (wrAll (synS sA) l) n).fm y).1.length = (((getF (synS sA).fm y).1.length : Int) + sumK (keptL (mx0 n) (wrAll (synS sA) l).ps) y).toNat := by
    rw [c1, List.length_take]; omega
  have hln := hC.len y
  refine ⟨by rw [datF_size, datF_size, hlen]; omega, c2, by rw [datF_size, datF_size, hlen]; omega, ?_, by rw [datF_size]; omega⟩
  rw [datF_size, hlen]
  conv => rhs; unfold datF
  rw [extract_take _ _ (by omega)]
  unfold datF; rw [c1]
def sumQ (f : Int → Int) (l : List Int) : Int := l.foldl (fun a y => a + f y) 0
theorem sumQ_at {f : Int → Int} {l : List Int} {i : Nat} {y : Int} (h : l[i]? = some y) : sumQ f (l.take (i + 1)) = sumQ f (l.take i) + f y := by
  rw [takeD_at h]; unfold sumQ; rw [List.foldl_append]; rfl
theorem sumQ_from (f : Int → Int) : ∀ (l : List Int) (a : Int), l.foldl (fun a y => a + f y) a = a + sumQ f l
  | [], a => by simp [sumQ]
  | y :: r, a => by
    unfold sumQ; simp only [List.foldl_cons]
    rw [sumQ_from f r, sumQ_from f r]; omega
theorem sumQ_cons (f : Int → Int) (y : Int) (r : List Int) : sumQ f (y :: r) = f y + sumQ f r := by
  conv => lhs; unfold sumQ
  simp only [List.foldl_cons]; rw [sumQ_from]; omega
theorem sumQ_add (f g : Int → Int) : ∀ l : List Int, sumQ (fun y => f y + g y) l = sumQ f l + sumQ g l
  | [] => by simp [sumQ]
  | y :: r => by rw [sumQ_cons, sumQ_cons, sumQ_cons, sumQ_add f g r]; omega
theorem sumQ_one (a v : Int) (hv : 0 ≤ v) : ∀ l : List Int, l.Nodup → sumQ (fun y => if a = y then v else 0) l ≤ v ∧ (a ∉ l → sumQ (fun y => if a = y then v else 0) l = 0)
  | [], _ => by simp [sumQ]; exact hv
  | y :: r, h => by
    rw [List.nodup_cons] at h
    obtain ⟨i1, i2⟩ := sumQ_one a v hv r h.2
    rw [sumQ_cons]
    by_cases e : a = y
    · subst e
      rw [if_pos rfl, i2 h.1]
      exact ⟨by omega, fun q => absurd (List.mem_cons_self) q⟩
    · rw [if_neg e]
      exact ⟨by omega, fun q => by rw [i2 (fun hm => q (List.mem_cons_of_mem _ hm))]; rfl⟩
theorem sumQ_le {l : List Int} (hn : l.Nodup) : ∀ {ps : List PcT}, (∀ p ∈ ps, 0 ≤ p.2) → sumQ (sumK ps) l ≤ sumP ps
  | [], _ => by
    have : ∀ l : List Int, sumQ (sumK []) l = 0 := fun l => by
      induction l with
      | nil => rfl
      | cons y r ih => rw [sumQ_cons, ih]; rfl
    rw [this]; simp [sumP]
  | p :: r, h => by
    have ih := sumQ_le hn (ps := r) (fun q hq => h q (by simp [hq]))
    have e : sumK (p :: r) = fun y => (if p.1 = y then p.2 else 0) + sumK r y := by funext y; exact sumK_cons p r y
    rw [e, sumQ_add, sumP_cons]
    have := (sumQ_one p.1 p.2 (h p (by simp)) l hn).1
    omega
theorem sumQ_nn {f : Int → Int} (h : ∀ y, 0 ≤ f y) : ∀ l : List Int, 0 ≤ sumQ f l
  | [] => by simp [sumQ]
  | y :: r => by rw [sumQ_cons]; have := h y; have := sumQ_nn h r; omega
theorem sumQ_takes {l : List Int} (hu : l.Pairwise (· < ·)) {s : DkS} {m : Nat} (h : DkI s m) (n : Int) (q : Nat) : 0 ≤ sumQ (sumK (keptL (mx0 n) s.ps)) (l.take q) ∧ sumQ (sumK (keptL (mx0 n) s.ps)) (l.take q) ≤ mx0 n ∧ sumQ (sumK (keptL (mx0 n) s.ps)) (l.take q) ≤ sumP s.ps ∧ sumP s.ps ≤ m * 1048576 := by
  have hnd : (l.take q).Nodup := List.Pairwise.imp (fun {a b} h => by omega) (hu.sublist (List.take_sublist q l))
  have k0 := kept_nn s.ps (mx0 n) (mx0_nn n) h.pos
  have k1 := sumQ_le hnd k0
  have k2 := kept_sum s.ps (mx0 n) (mx0_nn n) h.pos
  exact ⟨sumQ_nn (fun y => sumK_nn k0 y) _, by omega, by omega, h.tot⟩
theorem map_get {f : Int → ByteArray} {l : List Int} {j q : Nat} {y : Int} {h : ByteArray} (hy : l[q]? = some y) (hj : l.length ≤ j) (hh : ((l.take j).map f)[q]? = some h) : h = f y := by
  rw [List.take_of_length_le hj, List.getElem?_map, hy] at hh
  exact (Option.some.inj hh).symm
theorem map_at {f : Int → ByteArray} {l : List Int} {i : Nat} {y : Int} (h : l[i]? = some y) : (l.take i).map f ++ [f y] = (l.take (i + 1)).map f := by rw [takeD_at h]; simp
theorem dk_eq {base : Nat} {w : World} {d c c2 : Nat} {s s2 : DkS} (h : DObj base w d c s) (e : s = s2) (hc : c ≤ c2) : DObj base w d c2 s2 := by
  subst e; obtain ⟨M, pv, g, c', h1, h2⟩ := h; exact ⟨M, pv, g, c', by omega, h2⟩
end Go.Proofs.Ytcnahhobppnbbaa
