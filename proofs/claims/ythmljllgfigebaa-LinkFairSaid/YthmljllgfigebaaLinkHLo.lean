/- Package link: each, segments as iterators. Conditions: none. -/
import Derived.Test.YthmljllgfigebaaLinkGLo
import Derived.LoopNIn
import Derived.LoopIn
import Derived.ScopeJumps
namespace Go.Proofs.Ythmljllgfigebaa
open Go.RowKit Go.Shelf
attribute [local go_sem] Oper.semAt_some
set_option linter.unusedVariables false

theorem roundIn_nL {m m' : Nat} {P : Program} {l : Nat} {f : FuncId} {tmps : Array Value} {asg bd : Code} {w : World} {R : Ending → World → Prop} (h : RoundIn Fence.wide m P l f tmps asg bd w R) : RoundIn Fence.wide m' P l f tmps asg bd w R :=
  ⟨trivial, fun c cs _ => h.2 c cs (room_wide _)⟩
theorem roundIn_rL {m m' l0 : Nat} {P : Program} {l : Nat} {f : FuncId} {tmps : Array Value} {asg bd : Code} {w : World} {R : Ending → World → Prop} (h : RoundIn Fence.wide m P l f tmps asg bd w R) : RoundIn (Fence.wide.inRound l0) m' P l f tmps asg bd w R :=
  ⟨trivial, fun c cs _ => h.2 c cs (room_wide _)⟩
/-- Between two worlds: what lay below n₀, and all blocks but segments and lists of them, and the records from B₀ on, are as they were. -/
structure KT (n₀ B₀ : Nat) (A C : World) : Prop where
  below : Below n₀ A C
  keep : ∀ i T cs, Blk A i T cs → T ≠ 61 → T ≠ 67 → Blk C i T cs
  others : ∀ k o, B₀ ≤ k → A.heap[k]? = some o → o.isCells = false → C.heap[k]? = some o
theorem KT.refl (n₀ B₀ : Nat) (A : World) : KT n₀ B₀ A A := ⟨Below.refl _ _, fun _ _ _ h _ _ => h, fun _ _ _ h _ => h⟩
theorem KT.trans {n₀ B₀ : Nat} {A B C : World} (h : KT n₀ B₀ A B) (k : KT n₀ B₀ B C) : KT n₀ B₀ A C := ⟨h.below.trans k.below, fun i T cs x y z => k.keep i T cs (h.keep i T cs x y z) y z, fun i o hB hi ho => k.others i o hB (h.others i o hB hi ho) ho⟩
theorem KT.mono {n₀ B₀ B₁ : Nat} {A C : World} (h : KT n₀ B₀ A C) (hB : B₀ ≤ B₁) : KT n₀ B₁ A C := ⟨h.below, h.keep, fun i o hi => h.others i o (by omega)⟩
theorem KT.of_below {n₀ B₀ : Nat} {A C : World} (h : Below A.heap.size A C) (hn : n₀ ≤ A.heap.size) : KT n₀ B₀ A C :=
  ⟨h.mono hn, fun i T cs hb _ _ => hb.below h, fun k o _ hk _ => (h.block k (Array.getElem?_eq_some_iff.1 hk).1).trans hk⟩
theorem KT.putObj {n₀ B₀ l : Nat} {W : World} {o : Obj} (o' : Obj) (h : W.heap[l]? = some o) (hc : o.isCells = false) (hn : n₀ ≤ l) (hB : l < B₀) : KT n₀ B₀ W (W.putObj l o') := by
  have hg := grownBy_putObj' W l o'
  refine ⟨(Below.refl n₀ W).grown hg (by have := (Array.getElem?_eq_some_iff.1 h).1; omega) (fun k e => by cases e; omega), fun i T cs hb _ _ => ?_, fun k o2 hk h2 _ => ?_⟩
  · refine hb.kept hg (fun e => ?_)
    cases e
    unfold Blk at hb; rw [hb] at h; cases h; cases hc
  · exact (hg.block k (Array.getElem?_eq_some_iff.1 h2).1 (fun e => by cases e; omega)).trans h2
theorem KT.from {n₀ B₀ B : Nat} {A C : World} (h : KT n₀ B₀ A C) (hB : B₀ ≤ B) : KeepsFrom B A C := ⟨h.below.size, fun k o hk hi ho => h.others k o (by omega) hi ho⟩
theorem KT.box {n₀ B₀ : Nat} {A C : World} (h : KT n₀ B₀ A C) {B : Nat} {t : TypeId} {v : Value} (hb : Boxed A B t v) (h1 : t ≠ 61) (h2 : t ≠ 67) : Boxed C B t v := h.keep B t #[v] hb h1 h2
/-- The first of them. -/
def eachK (L : LnT) (f k : Nat) : List (Int × ByteArray) := (List.range' f k).map fun i : Nat => (L.first + (i : Int), L.q.getD i ⟨#[]⟩)
theorem eachK_snoc (L : LnT) (f k : Nat) : eachK L f (k + 1) = eachK L f k ++ [(L.first + ((f + k : Nat) : Int), L.q.getD (f + k) ⟨#[]⟩)] := by
  unfold eachK; rw [List.range'_1_concat, List.map_append]; rfl
theorem eachK_pre (L : LnT) (f t k : Nat) (h : k ≤ t - f) : eachK L f k <+: eachL L f t := by
  unfold eachK eachL
  refine List.IsPrefix.map _ ?_
  obtain ⟨d, hd⟩ : ∃ d, t - f = k + d := ⟨t - f - k, by omega⟩
  rw [hd, ← List.range'_append_1]
  exact List.prefix_append _ _
theorem strAtL {w : World} {ao : Option Addr} {n cap : Nat} {l : List ByteArray} (h : SliceOf strE 1 w (.slice ao n cap) l) (i : Nat) (hi : i < l.length) : ∃ b off, ao = some ⟨b, off, none⟩ ∧ w.cell? ⟨b, off + i, none⟩ = some (.string (l.getD i ⟨#[]⟩)) := by
  obtain ⟨a', c', e1, _, _, _, hx⟩ := h
  obtain ⟨b, off, e2, hr⟩ := hx i hi
  simp only [Value.slice.injEq] at e1
  refine ⟨b, off, by rw [e1.1, e2], ?_⟩
  rw [List.getD_eq_getElem?_getD, List.getElem?_eq_getElem hi, Option.getD_some]
  simpa using hr 0 _ rfl
set_option maxRecDepth 100000 in
set_option maxHeartbeats 2000000 in
theorem each_in (lp n₀ B₀ Bf Bt Bq b : Nat) (S : Nat → Prop) (u : Value) (L : LnT) (f t : Nat) (J : List (Int × ByteArray) → World → Prop) (ht : t ≤ L.q.length)
    (hY : ∀ pre x A, J pre A → (pre ++ [x]) <+: eachL L f t → YieldAt Fence.wide 1 Try.prog lp #[.int .i64 x.1, .string x.2] A fun e B => e = .returned (.bool true) ∧ J (pre ++ [x]) B ∧ KT n₀ B₀ A B)
    (hJd : ∀ pre X, J pre X → J pre X.drew) (W : World) (hO : LkU 102 S W b u L) (hS : ∀ q, S q → q < n₀) (hn : n₀ ≤ W.heap.size) (hJ : J [] W)
    (hf : Boxed W Bf 3 (.int .i64 f)) (htt : Boxed W Bt 3 (.int .i64 t)) (hq : Boxed W Bq 171 (pt b 2)) :
    CallsIn Fence.wide 2 Try.prog 129 #[.func (.yield lp) #[] #[], .pointer (some ⟨Bf, 0, none⟩), .pointer (some ⟨Bt, 0, none⟩), .pointer (some ⟨Bq, 0, none⟩)] W fun e B => (∃ v, e = .returned v) ∧ J (eachL L f t) B := by
  have cf := hf.cell
  have hok := hO.ok
  have h8 := hok.len; have hfi := hok.first
  have HY := Lib.hid hY; have HD := Lib.hid hJd; have HO := Lib.hid hO; have HS := Lib.hid hS; have HOK := Lib.hid hok
  have HT := Lib.hid htt; have HQ := Lib.hid hq
  clear hY hJd hO hS hf htt hq hok
  refine callsIn_of_wp Try.func129 rfl trivial ?_ rfl
  simp only [Try.ntmps129, List.size_toArray, List.length_cons, List.length_nil, Nat.reduceAdd, Nat.reduceSub, Array.replicate_succ, Array.replicate_zero, List.push_toArray, List.append_toArray, List.nil_append, List.cons_append]
  gi_wp2
  have hmix : Try.prog.follows .mixedOrders = true := by kernel_rfl
  gi_loopw [5] (fun p wr => ∃ k i : Nat, i = f + k ∧ p = .int .i64 (i : Int) ∧ k ≤ t - f ∧ J (eachK L f k) wr ∧ Hid (KT n₀ B₀ W wr)) (fun p wr => t - (intOf p).toNat)
  case atStart => exact ⟨0, f, rfl, rfl, Nat.zero_le _, hJ, Lib.hid (KT.refl _ _ _)⟩
  case round =>
    obtain ⟨k, i, hi, rfl, hk, hJs, HK⟩ := hrel
    have HI := Lib.hid hi
    have ct := (HK.out.box HT.out (by decide) (by decide)).cell
    have cq := (HK.out.box HQ.out (by decide) (by decide)).cell
    simp only [pt] at cq
    by_cases hlt : i < t
    · have hd : decide ((i : Int) < (t : Int)) = true := decide_eq_true (by omega)
      have HU := Lib.hid (HO.out.below HK.out.below HS.out)
      have c2 : wr.cell? ⟨b, 2, none⟩ = some (.int .i64 L.first) := HU.out.blk.cell (k := 2) rfl
      have c3 : wr.cell? ⟨b, 3, none⟩ = some u := HU.out.blk.cell (k := 3) rfl
      have hsl := HU.out.sl
      have hsl' := hsl
      obtain ⟨ao, cap, rfl, hc1, hc2, -, -⟩ := hsl'
      obtain ⟨rb, off, rfl, c4⟩ := strAtL hsl i (by omega)
      obtain ⟨x, hx⟩ : ∃ x, x = L.q.getD i ⟨#[]⟩ := ⟨_, rfl⟩
      rw [← hx] at c4
      have hsn : eachK L f (k + 1) = eachK L f k ++ [(L.first + (i : Int), x)] := by rw [hx, hi]; exact eachK_snoc L f k
      have hp : (eachK L f k ++ [(L.first + (i : Int), x)]) <+: eachL L f t := by rw [← hsn]; exact eachK_pre L f t (k + 1) (by omega)
      obtain ⟨fn, tmps, assign, body, hy, hR⟩ := HY.out _ _ wr.drew (HD.out _ _ hJs) hp
      have HP := Lib.hid hp
      clear hp hsl
      have hw : IntKind.i64.wrap (L.first + (i : Int)) = L.first + (i : Int) := IntWalk.i64_in _ (by omega)
      have hw2 : IntKind.i64.wrap ((i : Int) + 1) = (i : Int) + 1 := IntWalk.i64_in _ (by omega)
      have HSN := Lib.hid hsn
      clear hi hx hsn
      gi_wp2_with fail
      gi_region_with_o (refine (roundIn_nL hR).mono ?_; rintro e W3 ⟨rfl, hJ3, hk3⟩; have HJ3 := Lib.hid hJ3; have HK3 := Lib.hid hk3; clear hJ3 hk3)
      all_goals
        gi_wp2
        go_roundw
        case rel => exact ⟨k + 1, i + 1, by have := HI.out; omega, by go_num, by have := HI.out; omega, by rw [HSN.out]; exact HJ3.out, Lib.hid (HK.out.trans ((KT.of_below (grown_below (drew_grown _)) (by have := HK.out.below.size; omega)).trans HK3.out))⟩
        case measure =>
          show t - ((i : Int) + 1).toNat < t - ((i : Int)).toNat
          omega
    · have hd : decide ((i : Int) < (t : Int)) = false := decide_eq_false (by omega)
      gi_wp2
      go_end0
      refine ⟨⟨_, rfl⟩, ?_⟩
      have : k = t - f := by omega
      subst this
      exact hJs
end Go.Proofs.Ythmljllgfigebaa
