/- The document's disk as one object beside the program's; pure: a crash behind writes, and the pieces cut. Conditions: none. -/
import Derived.Test.YtcnahhobppnbbaaDiskR
import Derived.Test.YtcnahhobppnbbaaDiskH
namespace Go.Proofs.Ytcnahhobppnbbaa
open Go.RowKit

def TyR (w : World) (k : Nat) : Prop := ∃ cs T fr, w.heap[k]? = some (.cells cs T fr) ∧ (T = 119 ∨ T = 131 ∨ T = 127)
def SR (base : Nat) (w : World) (k : Nat) : Prop := base ≤ k ∧ TyR w k
def offR (T : TypeId) : Prop := T ≠ 119 ∧ T ≠ 131 ∧ T ≠ 127
abbrev ButR (base : Nat) (w x : World) : Prop := But (SR base w) w x
def RObj (base : Nat) (w : World) (d : Nat) (s : RkS) : Prop := ∃ fv pv, RkP (fun _ => False) base w d fv pv s
section
variable {base : Nat} {w x : World} {d c : Nat} {fv pv : Value} {s : RkS} {t : DkS}
theorem RkP.up (h : RkP (fun _ => False) base w d fv pv s) : RkP (SR base w) w.heap.size w d fv pv s := by
  have key : ∀ {B sz k : Nat} {e : TypeId} {v : Value} {xs : List Value}, w.ownsRow B e sz v k xs → (e = 119 ∨ e = 131 ∨ e = 127) → InS (fun _ => False) base v → InS (SR base w) w.heap.size v := by
    intro B sz k e v xs hr he hi i hb
    obtain ⟨cs, hc⟩ := row_block hr hb
    rcases hi i hb with q | q
    · exact absurd q id
    · exact .inl ⟨q, ⟨cs, e, _, hc, he⟩⟩
  refine ⟨h.blk, h.rF, h.rP, ?_, key h.rF (.inr (.inl rfl)) h.sF, key h.rP (.inr (.inr rfl)) h.sP⟩
  rcases h.sx with q | q
  · exact absurd q id
  · exact .inl ⟨q, ⟨_, _, _, h.blk, .inl rfl⟩⟩
theorem RkP.dn {w0 : World} (h : RkP (SR base w0) w0.heap.size w d fv pv s) (hb : base ≤ w0.heap.size) : RkP (fun _ => False) base w d fv pv s := by
  have key : ∀ {v : Value}, InS (SR base w0) w0.heap.size v → InS (fun _ => False) base v := fun hi i hb' => by
    rcases hi i hb' with q | q
    · exact .inr q.1
    · exact .inr (by omega)
  refine ⟨h.blk, h.rF, h.rP, ?_, key h.sF, key h.sP⟩
  rcases h.sx with q | q
  · exact .inr q.1
  · exact .inr (by omega)
theorem RObj.lo (h : RObj base w d s) : base ≤ w.heap.size := by
  obtain ⟨fv, pv, h⟩ := h
  have h1 := h.blk.lt
  rcases h.sx with q | q
  · exact absurd q id
  · omega
theorem RObj.keep (h : RObj base w d s) (hs : w.heap.size ≤ x.heap.size) (hk : ∀ k, TyR w k → x.heap[k]? = w.heap[k]?) : RObj base x d s := by
  obtain ⟨fv, pv, h⟩ := h
  have key : ∀ {B sz k : Nat} {e : TypeId} {v : Value} {xs : List Value}, w.ownsRow B e sz v k xs → (e = 119 ∨ e = 131 ∨ e = 127) → x.ownsRow B e sz v k xs := by
    intro B sz k e v xs hr he
    refine row_same hr hs fun i hi => ?_
    obtain ⟨cs, hcs⟩ := row_block hr hi
    exact hk i ⟨cs, e, _, hcs, he⟩
  refine ⟨fv, pv, ⟨?_, key h.rF (.inr (.inl rfl)), key h.rP (.inr (.inr rfl)), h.sx, h.sF, h.sP⟩⟩
  have hb := h.blk
  unfold Blk at hb ⊢
  rw [hk d ⟨_, _, _, hb, .inl rfl⟩]; exact hb
theorem TyR.lt {k : Nat} (h : TyR w k) : k < w.heap.size := by obtain ⟨cs, T, fr, h1, _⟩ := h; exact (Array.getElem?_eq_some_iff.1 h1).1
theorem TyS.lt {k : Nat} (h : TyS w k) : k < w.heap.size := by
  rcases h with ⟨cs, T, fr, h1, _⟩ | ⟨es, cl, h1⟩
  · exact (Array.getElem?_eq_some_iff.1 h1).1
  · exact (Array.getElem?_eq_some_iff.1 h1).1
theorem ty_apart {k : Nat} (h : TyS w k) (g : TyR w k) : False := by
  obtain ⟨cs, T, fr, h1, h2⟩ := g
  rcases h with ⟨cs', T', fr', h3, h4⟩ | ⟨es, cl, h3⟩
  · rw [h1] at h3
    simp only [Option.some.injEq, Obj.cells.injEq] at h3
    obtain ⟨_, rfl, _⟩ := h3
    rcases h2 with q | q | q <;> rcases h4 with r | r | r <;> (rw [q] at r; exact absurd r (by decide))
  · rw [h1] at h3; cases h3
theorem RObj.disk (h : RObj base w d s) {b2 : Nat} (hb : ButD b2 w x) : RObj base x d s := h.keep hb.size fun k hk => hb.block k hk.lt (fun q => ty_apart q.2 hk)
theorem DObj.doc (h : DObj base w d c t) {b2 : Nat} (hb : ButR b2 w x) : DObj base x d c t := h.keep hb.size fun k hk => hb.block k hk.lt (fun q => ty_apart hk q.2)
theorem RObj.gr {row : Option Nat} (h : RObj base w d s) (hg : w.grownBy x row) (hr : ∀ k, row = some k → ¬ TyR w k) : RObj base x d s := h.keep hg.size fun k hk => hg.block k hk.lt (fun e => hr k e.symm hk)
theorem RObj.new (h : RObj base w d s) (hg : w.grownBy x none) : RObj base x d s := h.gr hg (fun k e => by cases e)
theorem RObj.call (h : RObj base w d s) (hb : Below w.heap.size w x) : RObj base x d s := h.new (below_grown hb)
theorem not_tyR {N : Nat} {T : TypeId} {cs : Array Value} (hb : w.heap[N]? = some (.cells cs T (0, 0))) (hT : offR T) : ¬ TyR w N := by
  rintro ⟨cs', T', fr, h1, h2⟩
  rw [hb] at h1
  simp only [Option.some.injEq, Obj.cells.injEq] at h1
  obtain ⟨_, rfl, _⟩ := h1
  rcases h2 with q | q | q
  · exact hT.1 q
  · exact hT.2.1 q
  · exact hT.2.2 q
theorem RObj.at {N : Nat} {T : TypeId} {cs : Array Value} (h : RObj base w d s) (hb : Blk w N T cs) (hT : offR T) (hg : w.grownBy x (some N)) : RObj base x d s := h.gr hg (fun k e => by cases e; exact not_tyR hb hT)
theorem RObj.row {B sz k : Nat} {e : TypeId} {v : Value} {xs : List Value} (h : RObj base w d s) (hr : w.ownsRow B e sz v k xs) (hT : offR e) (hg : w.grownBy x v.ownBlock) : RObj base x d s :=
  h.gr hg (fun k e => by obtain ⟨cs, hc⟩ := row_block hr e; exact not_tyR hc hT)
theorem rowR {B sz k : Nat} {e : TypeId} {v : Value} {xs : List Value} (hr : w.ownsRow B e sz v k xs) (hT : offR e) (hb : ButR base w x) : x.ownsRow B e sz v k xs :=
  row_same hr hb.size fun i hi => by
    obtain ⟨cs, hc⟩ := row_block hr hi
    exact hb.block i (Array.getElem?_eq_some_iff.1 hc).1 (fun h => not_tyR hc hT h.2)
theorem blkR {N : Nat} {T : TypeId} {cs : Array Value} (h : Blk w N T cs) (hT : offR T) (hb : ButR base w x) : Blk x N T cs := by
  have hl := h.lt
  unfold Blk at h ⊢
  rw [hb.block N hl (fun h' => not_tyR h hT h'.2)]; exact h
theorem hbR {w0 : World} (h : Below w0.heap.size w0 w) (hb : ButR w0.heap.size w x) : Below w0.heap.size w0 x := below_but h hb h.size (fun i _ h => h.1)
theorem rk_eq {s2 : RkS} (h : RObj base w d s) (e : s = s2) : RObj base w d s2 := e ▸ h
end
theorem tRNew (base : Nat) (w : World) (hb : base ≤ w.heap.size) : Calls Try.prog 16 #[] w fun e w' => ∃ N, e = .returned (pt N 0) ∧ RObj base w' N r0S ∧ Below w.heap.size w w' :=
  (rNew_any w).mono fun e x ⟨N, h1, h, h3⟩ => ⟨N, h1, ⟨_, _, ⟨h.blk, h.rF, h.rP, by rcases h.sx with q | q; exact absurd q id; exact .inr (by omega), InS.nil, InS.nil⟩⟩, h3⟩
theorem tRWrite {base d : Nat} {s : RkS} (w : World) (n : Int) (t : ByteArray) (h : RObj base w d s) (hpl : s.P.length ≤ 100000) : Calls Try.prog 26 #[pt d 0, .int .i64 n, .string t] w fun e w' => e = .returned (.int .i64 (wrE n)) ∧ RObj base w' d (rwS s n t) ∧ ButR base w w' := by
  have hlo := h.lo
  obtain ⟨fv, pv, hP⟩ := h
  exact (rWrite_any w (SR base w) d fv pv s n t w (But.refl _ _) hP.up hpl).mono fun e x ⟨pv', h1, h2, h4⟩ => ⟨h1, ⟨fv, pv', h2.dn hlo⟩, h4⟩
theorem tRData {base d : Nat} {s : RkS} (w : World) (n : Int) (h : RObj base w d s) (hok : ∀ z ∈ s.P, flOk z) (hcz : ∀ i, (catR (safR s.F n) (s.P.take i) n).size ≤ 1000000000) : Calls Try.prog 27 #[pt d 0, .int .i64 n] w fun e w' => e = .returned (.string (datR s n)) ∧ RObj base w' d s ∧ ButR base w w' := by
  have h0 := h
  obtain ⟨fv, pv, hP⟩ := h
  exact (rData_any d fv pv s.ser s.boot s.F s.P n w hP.blk (row_sl hP.rF flE_len) (row_sl hP.rP flE_len) hok hcz).mono fun e x ⟨h1, h2⟩ => ⟨h1, h0.call h2, But.of_below h2⟩

/-! ### A crash behind writes alone -/
def okW (a : ActT) : Bool := decide (wrE a.2.1 = 0)
theorem ftk_y {l : List ActT} {i : Nat} {y : ActT} (h : l[i]? = some y) (e : wrE y.2.1 = 0) : (l.take i).filter okW ++ [y] = (l.take (i + 1)).filter okW := by rw [takeD_at h, List.filter_append]; simp [okW, e]
theorem ftk_n {l : List ActT} {i : Nat} {y : ActT} (h : l[i]? = some y) (e : ¬ wrE y.2.1 = 0) : (l.take i).filter okW = (l.take (i + 1)).filter okW := by rw [takeD_at h, List.filter_append]; simp [okW, e]
def bts (p : FlT) (k : Int) : List UInt8 := if p.1 = k then p.2.data.toList else []
def cat (L : List FlT) (k : Int) : List UInt8 := L.flatMap fun p => bts p k
def flA (a : ActT) : FlT := (a.2.1, a.2.2.1)
def pcA (a : ActT) : PcT := (a.2.1, (a.2.2.1.size : Int))
theorem wrAll_spec (k : Int) : ∀ (L : List ActT) (s : DkS), (wrAll s L).ps = s.ps ++ (L.filter okW).map pcA ∧ (getF (wrAll s L).fm k).1 = (getF s.fm k).1 ++ cat ((L.filter okW).map flA) k ∧ (getF (wrAll s L).fm k).2 = (getF s.fm k).2
  | [], s => by simp [wrAll, cat]
  | a :: r, s => by
    obtain ⟨i1, i2, i3⟩ := wrAll_spec k r (wrS s a.2.1 a.2.2.1)
    have e : wrAll s (a :: r) = wrAll (wrS s a.2.1 a.2.2.1) r := rfl
    rw [e]
    by_cases hw : wrE a.2.1 = 0
    · have hs : wrS s a.2.1 a.2.2.1 = ⟨putF s.fm a.2.1 ((getF s.fm a.2.1).1 ++ a.2.2.1.data.toList, (getF s.fm a.2.1).2), s.ps ++ [(a.2.1, (a.2.2.1.size : Int))], s.ser, s.boots⟩ := by unfold wrS; rw [if_pos hw]
      have hf : (a :: r).filter okW = a :: r.filter okW := by rw [List.filter_cons]; simp [okW, hw]
      rw [hs] at i1 i2 i3 ⊢
      rw [hf]
      simp only [getF_put] at i2 i3
      refine ⟨by rw [i1]; simp [pcA], ?_, ?_⟩
      · rw [i2]; simp only [List.map_cons, cat, List.flatMap_cons, bts, flA]
        by_cases ek : k = a.2.1
        · subst ek; simp
        · rw [if_neg ek, if_neg (fun q => ek q.symm)]; simp
      · rw [i3]
        by_cases ek : k = a.2.1
        · subst ek; simp
        · rw [if_neg ek]
    · have hs : wrS s a.2.1 a.2.2.1 = s := by unfold wrS; rw [if_neg hw]
      have hf : (a :: r).filter okW = r.filter okW := by rw [List.filter_cons]; simp [okW, hw]
      rw [hs] at i1 i2 i3 ⊢
      rw [hf]; exact ⟨i1, i2, i3⟩
/-- A file that a crash's run didn't touch is as it was. -/
theorem cr_stay : ∀ (ps : List PcT) (X : Int × Bool × (Int → Option FileM)) (k : Int), (getF (ps.foldl crStep X).2.2 k).2.2 = false → (getF (ps.foldl crStep X).2.2 k).2.1 = (getF X.2.2 k).2.1 ∧ (getF X.2.2 k).2.2 = false
  | [], X, k, h => ⟨rfl, h⟩
  | p :: r, X, k, h => by
    obtain ⟨i1, i2⟩ := cr_stay r (crStep X p) k h
    have e3 : (crStep X p).2.2 = if 0 < (if X.1 < p.2 then X.1 else p.2) ∨ (p.2 = 0 ∧ X.2.1 = true) then putF X.2.2 p.1 ((getF X.2.2 p.1).1, (getF X.2.2 p.1).2.1 + (if X.1 < p.2 then X.1 else p.2), true) else X.2.2 := rfl
    rw [List.foldl_cons, i1]
    obtain ⟨kp, hkp⟩ : ∃ z : Int, z = if X.1 < p.2 then X.1 else p.2 := ⟨_, rfl⟩
    rw [e3, ← hkp] at i2 ⊢
    by_cases hc : 0 < kp ∨ (p.2 = 0 ∧ X.2.1 = true)
    · rw [if_pos hc, getF_put] at i2 ⊢
      by_cases e : k = p.1
      · rw [if_pos e] at i2; cases i2
      · rw [if_neg e] at i2 ⊢; exact ⟨rfl, i2⟩
    · rw [if_neg hc] at i2 ⊢; exact ⟨rfl, i2⟩
theorem getF_trF (fm : Int → Option FileM) (k : Int) : (getF (trF fm) k).1 = if (getF fm k).2.2 = true then (getF fm k).1.take (getF fm k).2.1.toNat else [] := by
  unfold getF trF
  cases fm k with
  | none => simp [mz]
  | some q => by_cases e : q.2.2 = true <;> simp [trM, e, mz]
theorem crash_cat {m : Nat} {L : List ActT} (h : DkI (wrAll s0D L) m) (n : Int) (k : Int) : (getF (crS (wrAll s0D L) n).fm k).1 = (cat ((L.filter okW).map flA) k).take (sumK (keptL (mx0 n) ((L.filter okW).map pcA)) k).toNat := by
  obtain ⟨w1, w2, w3⟩ := wrAll_spec k L s0D
  have e0 : getF s0D.fm k = mz := rfl
  rw [e0] at w2 w3
  have w1' : (wrAll s0D L).ps = (L.filter okW).map pcA := by rw [w1]; rfl
  have w2' : (getF (wrAll s0D L).fm k).1 = cat ((L.filter okW).map flA) k := by rw [w2]; rfl
  obtain ⟨h1, h2⟩ := crRun_all (n := n) (fm := (wrAll s0D L).fm) h.pos
  obtain ⟨j1, j2, j3⟩ := h2 k
  show (getF (trF (crRun n (wrAll s0D L).fm (wrAll s0D L).ps).2.2) k).1 = _
  rw [getF_trF]
  have w3' : (getF (wrAll s0D L).fm k).2.1 = 0 := by rw [w3]; rfl
  rw [w3', w1'] at j2
  cases hs : (getF (crRun n (wrAll s0D L).fm (wrAll s0D L).ps).2.2 k).2.2 with
  | true => rw [if_pos rfl, j1, w2', w1', j2]; congr 2; omega
  | false =>
    rw [if_neg (by decide)]
    have := (cr_stay _ _ k hs).1
    have e2 : (getF (crRun n (wrAll s0D L).fm (wrAll s0D L).ps).2.2 k).2.1 = (getF (wrAll s0D L).fm k).2.1 := this
    rw [w1', w3', j2] at e2
    rw [show sumK (keptL (mx0 n) ((L.filter okW).map pcA)) k = 0 by omega]; rfl
/-- The pieces, cut at what a crash keeps. -/
def cutS (l : Int) (t : ByteArray) : ByteArray := if l < (t.size : Int) then t.extract 0 l.toNat else t
def trun : Int → List ActT → List FlT
  | _, [] => []
  | l, a :: r => (a.2.1, cutS l a.2.2.1) :: trun (l - ((cutS l a.2.2.1).size : Int)) r
theorem ext_list (t : ByteArray) (j : Nat) : (t.extract 0 j).data.toList = t.data.toList.take j := by simp [ByteArray.data_extract]
theorem ext_size (t : ByteArray) (j : Nat) (h : j ≤ t.size) : (t.extract 0 j).size = j := by
  have := congrArg List.length (ext_list t j)
  rw [List.length_take] at this
  have e1 : (t.extract 0 j).data.toList.length = (t.extract 0 j).size := rfl
  have e2 : t.data.toList.length = t.size := rfl
  omega
theorem cut_size {l : Int} (hl : 0 ≤ l) (t : ByteArray) : ((cutS l t).size : Int) = if l < (t.size : Int) then l else (t.size : Int) := by
  unfold cutS
  by_cases h : l < (t.size : Int)
  · rw [if_pos h, if_pos h, ext_size _ _ (by omega)]; omega
  · rw [if_neg h, if_neg h]
theorem trun_0 (k : Int) : ∀ L : List ActT, cat (trun 0 L) k = [] ∧ sumK (keptL 0 (L.map pcA)) k = 0
  | [] => ⟨rfl, rfl⟩
  | a :: r => by
    have hc := cut_size (Int.le_refl 0) a.2.2.1
    have hz : (cutS 0 a.2.2.1).size = 0 := by
      have : 0 ≤ (a.2.2.1.size : Int) := by omega
      split at hc <;> omega
    obtain ⟨i1, i2⟩ := trun_0 k r
    have hb : bts (a.2.1, cutS 0 a.2.2.1) k = [] := by
      unfold bts; split
      · exact List.eq_nil_of_length_eq_zero hz
      · rfl
    have hk0 : (if (0 : Int) < (pcA a).2 then (0 : Int) else (pcA a).2) = 0 := by
      show (if (0 : Int) < (a.2.2.1.size : Int) then (0 : Int) else (a.2.2.1.size : Int)) = 0
      split <;> omega
    constructor
    · show bts (a.2.1, cutS 0 a.2.2.1) k ++ cat (trun (0 - ((cutS 0 a.2.2.1).size : Int)) r) k = []
      rw [hb, hz]; simpa using i1
    · show sumK (keptL 0 (pcA a :: r.map pcA)) k = 0
      unfold keptL
      rw [sumK_cons, hk0]
      simp only [Int.sub_zero, i2]; simp
theorem cut_cat (k : Int) : ∀ (L : List ActT) (l : Int), 0 ≤ l → (cat (L.map flA) k).take (sumK (keptL l (L.map pcA)) k).toNat = cat (trun l L) k ∧ 0 ≤ sumK (keptL l (L.map pcA)) k
  | [], l, _ => ⟨rfl, by simp [keptL, sumK]⟩
  | a :: r, l, hl => by
    have hc := cut_size hl a.2.2.1
    have e1 : cat ((a :: r).map flA) k = bts (flA a) k ++ cat (r.map flA) k := rfl
    have e2 : cat (trun l (a :: r)) k = bts (a.2.1, cutS l a.2.2.1) k ++ cat (trun (l - ((cutS l a.2.2.1).size : Int)) r) k := rfl
    have e3 : sumK (keptL l ((a :: r).map pcA)) k = (if a.2.1 = k then (if l < (a.2.2.1.size : Int) then l else (a.2.2.1.size : Int)) else 0) + sumK (keptL (l - if l < (a.2.2.1.size : Int) then l else (a.2.2.1.size : Int)) (r.map pcA)) k := by
      show sumK (keptL l (pcA a :: r.map pcA)) k = _
      conv => lhs; unfold keptL
      rw [sumK_cons]; rfl
    rw [e1, e2, e3, hc]
    by_cases h : l < (a.2.2.1.size : Int)
    · simp only [if_pos h]
      rw [show l - l = 0 by omega, (trun_0 k r).1, (trun_0 k r).2]
      by_cases ek : a.2.1 = k
      · rw [if_pos ek]
        have hb1 : bts (flA a) k = a.2.2.1.data.toList := by unfold bts flA; rw [if_pos ek]
        have hb2 : bts (a.2.1, cutS l a.2.2.1) k = a.2.2.1.data.toList.take l.toNat := by unfold bts cutS; rw [if_pos ek, if_pos h, ext_list]
        have hlen : a.2.2.1.data.toList.length = a.2.2.1.size := rfl
        rw [hb1, hb2, List.append_nil, show (l + 0).toNat = l.toNat by omega, List.take_append_of_le_length (by omega)]
        exact ⟨rfl, by omega⟩
      · rw [if_neg ek]
        have hb2 : bts (a.2.1, cutS l a.2.2.1) k = [] := by unfold bts; rw [if_neg ek]
        rw [hb2]; exact ⟨rfl, by omega⟩
    · simp only [if_neg h]
      obtain ⟨i1, i2⟩ := cut_cat k r (l - (a.2.2.1.size : Int)) (by omega)
      have hcs : cutS l a.2.2.1 = a.2.2.1 := by unfold cutS; rw [if_neg h]
      rw [hcs]
      by_cases ek : a.2.1 = k
      · rw [if_pos ek]
        have hb1 : bts (flA a) k = a.2.2.1.data.toList := by unfold bts flA; rw [if_pos ek]
        have hb2 : bts (a.2.1, a.2.2.1) k = a.2.2.1.data.toList := by unfold bts; rw [if_pos ek]
        have hlen : a.2.2.1.data.toList.length = a.2.2.1.size := rfl
        rw [hb1, hb2, ← i1, List.take_append, List.take_of_length_le (by omega)]
        refine ⟨?_, by omega⟩
        congr 2; omega
      · rw [if_neg ek]
        have hb1 : bts (flA a) k = [] := by unfold bts flA; rw [if_neg ek]
        have hb2 : bts (a.2.1, a.2.2.1) k = [] := by unfold bts; rw [if_neg ek]
        rw [hb1, hb2, ← i1]
        simp only [List.nil_append]
        exact ⟨by congr 2; omega, by omega⟩
theorem catR_list (k : Int) : ∀ (P : List FlT) (a : ByteArray), (catR a P k).data.toList = a.data.toList ++ cat P k
  | [], a => by simp [catR, cat]
  | p :: r, a => by
    have e : catR a (p :: r) k = catR (if p.1 = k then a ++ p.2 else a) r k := rfl
    rw [e, catR_list k r]
    show _ = a.data.toList ++ (bts p k ++ cat r k)
    unfold bts
    by_cases h : p.1 = k
    · rw [if_pos h, if_pos h]; simp [ByteArray.data_append]
    · rw [if_neg h, if_neg h]; simp
theorem bytes_ext {a b : ByteArray} (h : a.data.toList = b.data.toList) : a = b := by
  apply ByteArray.ext; exact Array.toList_inj.1 h
theorem order_eq {m : Nat} {L : List ActT} (h : DkI (wrAll s0D L) m) {n : Int} (hn : 0 ≤ n) (k : Int) : datF (crS (wrAll s0D L) n).fm k = datR ⟨[], trun n (L.filter okW), 1, 1⟩ k := by
  apply bytes_ext
  show (getF (crS (wrAll s0D L) n).fm k).1 = (catR (safR [] k) (trun n (L.filter okW)) k).data.toList
  have hm : mx0 n = n := by unfold mx0; rw [if_neg (by omega)]
  rw [crash_cat h, catR_list, hm, (cut_cat k (L.filter okW) n hn).1]
  have : safR [] k = (⟨#[]⟩ : ByteArray) := by unfold safR fOk; simp [fIx]
  rw [this]; rfl
theorem trun_step {L : List ActT} {j : Nat} {y : ActT} {lf : Int} {Pk : List FlT} {A : List FlT} {v : ByteArray} (h : A = Pk ++ trun lf (L.drop j)) (hy : L[j]? = some y) (hv : cutS lf y.2.2.1 = v) : A = (Pk ++ [(y.2.1, v)]) ++ trun (lf - ((v.size : Nat) : Int)) (L.drop (j + 1)) := by
  obtain ⟨hj, e⟩ := List.getElem?_eq_some_iff.1 hy
  rw [List.drop_eq_getElem_cons hj, e] at h
  rw [h]
  show Pk ++ ((y.2.1, cutS lf y.2.2.1) :: trun (lf - ((cutS lf y.2.2.1).size : Int)) (L.drop (j + 1))) = _
  rw [hv]; simp
theorem trun_end {L : List ActT} {j : Nat} {lf : Int} {Pk A : List FlT} (h : A = Pk ++ trun lf (L.drop j)) (hj : L.length ≤ j) : A = Pk := by
  rw [List.drop_eq_nil_of_le hj] at h; rw [h]; simp [trun]
theorem ftk_ok {L : List ActT} {y : ActT} {j : Nat} (h : (L.filter okW)[j]? = some y) : wrE y.2.1 = 0 ∧ y ∈ L := by
  have := List.mem_filter.1 (List.mem_of_getElem? h)
  exact ⟨of_decide_eq_true this.2, this.1⟩
theorem rwS_y {s : RkS} {n : Int} {t : ByteArray} (h : wrE n = 0) : rwS s n t = ⟨s.F, s.P ++ [(n, t)], s.ser, s.boot⟩ := by unfold rwS; rw [if_pos h]
/-- Sizes of what the document's disk has. -/
theorem cat_small {P : List FlT} (h : ∀ p ∈ P, p.2.size ≤ 1048576) (k : Int) : (cat P k).length ≤ P.length * 1048576 := by
  induction P with
  | nil => simp [cat]
  | cons p r ih =>
    have h1 := h p (by simp); have h2 := ih (fun q hq => h q (by simp [hq]))
    have e : cat (p :: r) k = bts p k ++ cat r k := rfl
    rw [e, List.length_append, List.length_cons]
    have : (bts p k).length ≤ 1048576 := by
      unfold bts; split
      · exact h1
      · simp
    omega
theorem catR_small {P : List FlT} (h : ∀ p ∈ P, p.2.size ≤ 1048576) (hl : P.length ≤ 100) (k : Int) (i : Nat) : (catR (safR [] k) (P.take i) k).size ≤ 1000000000 := by
  have e : (catR (safR [] k) (P.take i) k).size = (catR (safR [] k) (P.take i) k).data.toList.length := rfl
  have h0 : safR [] k = (⟨#[]⟩ : ByteArray) := by unfold safR fOk; simp [fIx]
  rw [e, catR_list, h0, List.length_append]
  have h1 := cat_small (P := P.take i) (fun p hp => h p (List.mem_of_mem_take hp)) k
  have h2 := List.length_take_le i P
  have h3 := List.length_take_le' i P
  simp; omega
end Go.Proofs.Ytcnahhobppnbbaa
