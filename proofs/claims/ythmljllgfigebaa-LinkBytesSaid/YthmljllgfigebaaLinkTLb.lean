/- Package link: what is put is read, what is read is put. Conditions: none. -/
import Derived.Test.YthmljllgfigebaaLinkSLb
import Derived.Test.YthmljllgfigebaaEatsLb
namespace Go.Proofs.Ythmljllgfigebaa
open Go.RowKit
set_option linter.unusedVariables false
def segB (s : SegT) : List UInt8 := putL s.boot ++ (putL s.stream ++ (putL s.seq ++ (putL s.ab ++ (putL s.ast ++ (putL s.asq ++ ([flagB s.has] ++ (putL (s.body.size : Int) ++ s.body.data.toList)))))))
theorem wNum_ok {n : Int} {p : List UInt8 × Int} (h : (wNum n p).2 = 0) : p.2 = 0 ∧ 0 ≤ n ∧ wNum n p = (p.1 ++ putL n, 0) := by
  unfold wNum at h ⊢
  by_cases h1 : p.2 ≠ 0
  · rw [if_pos h1] at h; exact absurd h h1
  · rw [if_neg h1] at h ⊢
    by_cases h2 : n < 0
    · rw [if_pos h2] at h; cases h
    · rw [if_neg h2]; exact ⟨by omega, by omega, rfl⟩
theorem wFlag_ok {f : Bool} {p : List UInt8 × Int} (h : (wFlag f p).2 = 0) : p.2 = 0 ∧ wFlag f p = (p.1 ++ [flagB f], 0) := by
  unfold wFlag at h ⊢
  by_cases h1 : p.2 ≠ 0
  · rw [if_pos h1] at h; exact absurd h h1
  · rw [if_neg h1]; exact ⟨by omega, rfl⟩
theorem wText_ok {t : ByteArray} {p : List UInt8 × Int} (h : (wText t p).2 = 0) : p.2 = 0 ∧ wText t p = (p.1 ++ putL (t.size : Int) ++ t.data.toList, 0) := by
  unfold wText at h ⊢
  by_cases h1 : p.2 ≠ 0
  · rw [if_pos h1] at h; exact absurd h h1
  · rw [if_neg h1]; exact ⟨by omega, rfl⟩
def SegN (s : SegT) : Prop := 0 ≤ s.boot ∧ 0 ≤ s.stream ∧ 0 ≤ s.seq ∧ 0 ≤ s.ab ∧ 0 ≤ s.ast ∧ 0 ≤ s.asq
theorem segP_ok {s : SegT} (h : (segP s).2 = 0) : SegN s ∧ segP s = (segB s, 0) := by
  unfold segP at h ⊢
  obtain ⟨h8, e8⟩ := wText_ok h
  obtain ⟨h7, e7⟩ := wFlag_ok h8
  obtain ⟨h6, n6, e6⟩ := wNum_ok h7
  obtain ⟨h5, n5, e5⟩ := wNum_ok h6
  obtain ⟨h4, n4, e4⟩ := wNum_ok h5
  obtain ⟨h3, n3, e3⟩ := wNum_ok h4
  obtain ⟨h2, n2, e2⟩ := wNum_ok h3
  obtain ⟨h1, n1, e1⟩ := wNum_ok h2
  refine ⟨⟨n1, n2, n3, n4, n5, n6⟩, ?_⟩
  rw [e8, e7, e6, e5, e4, e3, e2, e1]
  simp [segB, List.append_assoc]
theorem segP_of {s : SegT} (h : SegN s) : segP s = (segB s, 0) := by
  obtain ⟨n1, n2, n3, n4, n5, n6⟩ := h
  have hn : ∀ (l : List UInt8) (n : Int), 0 ≤ n → wNum n (l, 0) = (l ++ putL n, 0) := fun l n h => by unfold wNum; rw [if_neg (by simp), if_neg (by omega)]
  unfold segP
  rw [hn _ _ n1, hn _ _ n2, hn _ _ n3, hn _ _ n4, hn _ _ n5, hn _ _ n6]
  unfold wFlag; rw [if_neg (by simp)]
  unfold wText; rw [if_neg (by simp)]
  simp [segB, List.append_assoc]
theorem putG_of {s : SegT} (h : SegN s) (hb : s.body.size ≤ 65536) : putG s = (⟨(segB s).toArray⟩, 0) := by
  have hd : doneW (segP s) = (⟨(segB s).toArray⟩, 0) := by rw [segP_of h]; rfl
  unfold putG; rw [hd, if_neg (by simp), if_neg (by omega)]
theorem putG_ok {s : SegT} (h : (putG s).2 = 0) : SegN s ∧ s.body.size ≤ 65536 ∧ putG s = (⟨(segB s).toArray⟩, 0) := by
  have h0 := h
  unfold putG at h
  by_cases h1 : (doneW (segP s)).2 ≠ 0
  · rw [if_pos h1] at h; exact absurd h h1
  · rw [if_neg h1] at h
    by_cases h2 : 65536 < s.body.size
    · rw [if_pos h2] at h; cases h
    · have h3 : (segP s).2 = 0 := by
        unfold doneW at h1
        by_cases h4 : (segP s).2 = 0
        · exact h4
        · rw [if_neg h4] at h1; exact absurd h4 h1
      have hN := (segP_ok h3).1
      exact ⟨hN, by omega, putG_of hN (by omega)⟩
theorem numR_at2 {s : ByteArray} {a : Nat} {x m n p : Int} (q : numR s a x m = (n, p, 0)) : x = 0 ∧ ∃ b : Nat, p = b ∧ eats s a (putL n) b := by
  have h := numR_eats (s := s) (a := a) (x := x) (m := m) (by rw [q])
  rw [q] at h; exact h
/-- What is read is put so. -/
theorem read_put {t : ByteArray} (h : (rdSeg t).2 = 0) : putG (rdSeg t).1 = (t, 0) := by
  rcases q1 : numR t 0 0 1073741824 with ⟨n1, a1, e1⟩
  rcases q2 : numR t a1 e1 1073741824 with ⟨n2, a2, e2⟩
  rcases q3 : numR t a2 e2 1073741824 with ⟨n3, a3, e3⟩
  rcases q4 : numR t a3 e3 1073741824 with ⟨n4, a4, e4⟩
  rcases q5 : numR t a4 e4 1073741824 with ⟨n5, a5, e5⟩
  rcases q6 : numR t a5 e5 1073741824 with ⟨n6, a6, e6⟩
  rcases q7 : flagR t a6.toNat e6 with ⟨f, a7, e7⟩
  rcases q8 : textR t a7 e7 65536 with ⟨y, a8, e8⟩
  have hE : rdSeg t = if endV t a8.toNat e8 ≠ 0 then (zSeg, endV t a8.toNat e8) else (⟨n1, n2, n3, n4, n5, n6, f, y⟩, 0) := by
    unfold rdSeg; simp only [q1, q2, q3, q4, q5, q6, q7, q8]
  by_cases hx : endV t a8.toNat e8 ≠ 0
  · rw [hE, if_pos hx] at h; exact absurd h hx
  · rw [hE, if_neg hx]
    have hx : endV t a8.toNat e8 = 0 := by omega
    have z8 : e8 = 0 := by
      by_cases h1 : e8 = 0
      · exact h1
      · unfold endV at hx; rw [if_neg h1] at hx; exact hx
    subst z8
    have l1 := numR_le (s := t) (a := 0) (x := 0) (m := 1073741824) (by omega); rw [q1] at l1
    have l2 := numR_le (s := t) (a := a1) (x := e1) (m := 1073741824) (by omega); rw [q2] at l2
    have l3 := numR_le (s := t) (a := a2) (x := e2) (m := 1073741824) (by omega); rw [q3] at l3
    have l4 := numR_le (s := t) (a := a3) (x := e3) (m := 1073741824) (by omega); rw [q4] at l4
    have l5 := numR_le (s := t) (a := a4) (x := e4) (m := 1073741824) (by omega); rw [q5] at l5
    have l6 := numR_le (s := t) (a := a5) (x := e5) (m := 1073741824) (by omega); rw [q6] at l6
    have l8 := textR_le (s := t) (a := a7) (x := e7) (m := 65536) (by omega); rw [q8] at l8
    simp only at l1 l2 l3 l4 l5 l6 l8
    have z7 : e7 = 0 := by
      by_cases h1 : e7 = 0
      · exact h1
      · unfold textR at q8; rw [if_pos h1] at q8; simp only [Prod.mk.injEq] at q8; exact q8.2.2
    subst z7
    have z6 : e6 = 0 := by
      by_cases h1 : e6 = 0
      · exact h1
      · unfold flagR at q7; rw [if_pos h1] at q7; simp only [Prod.mk.injEq] at q7; exact q7.2.2
    subst z6
    have zz : ∀ {a x n p : Int}, numR t a x 1073741824 = (n, p, 0) → x = 0 := fun {a x n p} q => by
      by_cases h1 : x = 0
      · exact h1
      · unfold numR at q; rw [if_pos h1] at q; simp only [Prod.mk.injEq] at q; exact q.2.2
    obtain rfl := zz q6
    obtain rfl := zz q5
    obtain rfl := zz q4
    obtain rfl := zz q3
    obtain rfl := zz q2
    obtain ⟨_, b1, rfl, g1⟩ := numR_at2 (a := 0) (by simpa using q1)
    obtain ⟨_, b2, rfl, g2⟩ := numR_at2 q2
    obtain ⟨_, b3, rfl, g3⟩ := numR_at2 q3
    obtain ⟨_, b4, rfl, g4⟩ := numR_at2 q4
    obtain ⟨_, b5, rfl, g5⟩ := numR_at2 q5
    obtain ⟨_, b6, rfl, g6⟩ := numR_at2 q6
    rw [show ((b6 : Nat) : Int).toNat = b6 by omega] at q7
    have h7 := flagR_eats (s := t) (a := b6) (x := 0) (fun _ => g6.2.1) (by rw [q7])
    rw [q7] at h7
    obtain ⟨_, b7, hb7, g7⟩ := h7
    simp only at hb7 g7
    subst hb7
    have h8 := textR_eats (s := t) (a := b7) (x := 0) (m := 65536) (by rw [q8])
    rw [q8] at h8
    obtain ⟨_, b8, hb8, g8⟩ := h8
    simp only at hb8 g8
    subst hb8
    rw [show ((b8 : Nat) : Int).toNat = b8 by omega] at hx
    have hend := (endV_eats (s := t) (a := b8) (x := 0) (fun _ => g8.2.1) hx).2
    subst hend
    have hw := eats.whole (g1.app (g2.app (g3.app (g4.app (g5.app (g6.app (g7.app g8)))))))
    rw [putG_of (s := ⟨n1, n2, n3, n4, n5, n6, f, y⟩) ⟨l1.1, l2.1, l3.1, l4.1, l5.1, l6.1⟩ (by show y.size ≤ 65536; omega)]
    unfold segB
    rw [hw]
theorem flagR_of {T : ByteArray} {a : Nat} {f : Bool} (h : has T a [flagB f]) (hs : a + 1 ≤ T.size) : flagR T a 0 = (f, ((a + 1 : Nat) : Int), 0) := by
  have hb := h 0 (by simp)
  simp only [Nat.add_zero, List.getElem_cons_zero] at hb
  unfold flagR
  rw [if_neg (by simp), if_neg (by omega), hb]
  cases f <;> simp [flagB]
/-- What is put is read as it was. -/
theorem put_read {s : SegT} (h : (putG s).2 = 0) (hm : s.boot ≤ 1073741824 ∧ s.stream ≤ 1073741824 ∧ s.seq ≤ 1073741824 ∧ s.ab ≤ 1073741824 ∧ s.ast ≤ 1073741824 ∧ s.asq ≤ 1073741824) : rdSeg (putG s).1 = (s, 0) := by
  obtain ⟨⟨n1, n2, n3, n4, n5, n6⟩, hb, hE⟩ := putG_ok h
  obtain ⟨m1, m2, m3, m4, m5, m6⟩ := hm
  rw [hE]
  show rdSeg ⟨(segB s).toArray⟩ = _
  obtain ⟨T, hT⟩ : ∃ T : ByteArray, T = ⟨(segB s).toArray⟩ := ⟨_, rfl⟩
  have hh : has T 0 (segB s) := by rw [hT]; exact has_self _
  have hs : T.size = (segB s).length := by rw [hT]; show (segB s).toArray.size = _; simp
  rw [← hT]
  unfold segB at hh hs
  simp only [List.length_append, List.length_singleton] at hs
  obtain ⟨k1, hh⟩ := has_app hh
  obtain ⟨k2, hh⟩ := has_app hh
  obtain ⟨k3, hh⟩ := has_app hh
  obtain ⟨k4, hh⟩ := has_app hh
  obtain ⟨k5, hh⟩ := has_app hh
  obtain ⟨k6, hh⟩ := has_app hh
  obtain ⟨k7, k8⟩ := has_app hh
  have r1 := numR_of (T := T) (a := 0) n1 m1 (by omega) k1 (by omega)
  have r2 := numR_of (T := T) n2 m2 (by omega) k2 (by omega)
  have r3 := numR_of (T := T) n3 m3 (by omega) k3 (by omega)
  have r4 := numR_of (T := T) n4 m4 (by omega) k4 (by omega)
  have r5 := numR_of (T := T) n5 m5 (by omega) k5 (by omega)
  have r6 := numR_of (T := T) n6 m6 (by omega) k6 (by omega)
  have r7 := flagR_of (T := T) k7 (by simp; omega)
  have r8 := textR_of (T := T) (t := s.body) (m := 65536) (by omega) (by omega) k8 (by simp only [List.length_append, List.length_singleton]; omega)
  have r1' : numR T 0 0 1073741824 = _ := r1
  have hend : endV T (0 + (putL s.boot).length + (putL s.stream).length + (putL s.seq).length + (putL s.ab).length + (putL s.ast).length + (putL s.asq).length + 1 + (putL (s.body.size : Int) ++ s.body.data.toList).length) 0 = 0 := by
    unfold endV; rw [if_pos rfl, if_neg (by rw [List.length_append]; omega)]
  unfold rdSeg
  simp only [r1', r2, r3, r4, r5, r6, Int.toNat_natCast, List.length_singleton] at r7 r8 hend ⊢
  simp only [r7, r8, Int.toNat_natCast, hend]
  rfl
end Go.Proofs.Ythmljllgfigebaa
