/- Put together: OpsD, ItemP. Conditions: as each says. -/
import Derived.Test.YteioaaegooebpaaOpsC
import Derived.Test.YteioaaegooebpaaEats
import Derived.Test.YteioaaegooebpaaNb1
/- Package ops: what is put is read, what is read is put; without the program. Conditions: none. -/
namespace Go.Proofs.Yteioaaegooebpaa
open Go.RowKit Go.PlainAid
set_option linter.unusedVariables false


theorem putOs_snoc (l : List OpT) (y : OpT) : putOs (l ++ [y]) = putOs l ++ putO1 y := by simp [putOs]
theorem rd_put {T : ByteArray} {a : Nat} (l acc : List OpT) (hok : ∀ z ∈ l, OpOk z) (hh : has T a (putOs l)) (hs : a + (putOs l).length ≤ T.size) :
    ∀ i, i ≤ l.length → rdN T i (acc, (a : Int), 0) = (acc ++ l.take i, ((a + (putOs (l.take i)).length : Nat) : Int), 0)
  | 0, _ => by simp [rdN, putOs]
  | i + 1, hi => by
    have ih := rd_put l acc hok hh hs i (by omega)
    have hy : l[i]? = some l[i] := List.getElem?_eq_getElem (by omega)
    have ht := takeO_at hy
    obtain ⟨⟨k1, k2⟩, k3, _⟩ := hok l[i] (List.getElem_mem _)
    have e : putOs l = putOs (l.take i) ++ (putO1 l[i] ++ putOs (l.drop (i + 1))) := by
      rw [← List.append_assoc, ← putOs_snoc, ← ht]
      unfold putOs; rw [← List.flatMap_append, List.take_append_drop]
    rw [e] at hh hs
    obtain ⟨_, h2⟩ := has_app hh
    obtain ⟨h3, _⟩ := has_app h2
    unfold putO1 at h3
    rw [List.append_assoc] at h3
    obtain ⟨h4, h5⟩ := has_app h3
    obtain ⟨h6, h7⟩ := has_app h5
    have hlen : (putO1 l[i]).length = (putL (l[i].1.size : Int) ++ l[i].1.data.toList).length + (1 + (putL (l[i].2.1.size : Int) ++ l[i].2.1.data.toList).length) := by unfold putO1; simp only [List.length_append, List.length_singleton]; omega
    rw [List.length_append, List.length_append] at hs
    have q1 := textR_of (m := 8) (by omega) (by omega) h4 (by omega)
    have q2 := flagR_put h6 (by omega)
    have q3 := textR_of (m := 8) (by omega) (by omega) h7 (by simp only [List.length_singleton]; omega)
    rw [rdN_step ih q1 q2 q3, ht, putOs_snoc]
    refine Prod.ext (show acc ++ l.take i ++ [l[i]] = _ by rw [List.append_assoc]) (Prod.ext ?_ rfl)
    have hl2 : (putOs (l.take i) ++ putO1 l[i]).length = (putOs (l.take i)).length + (putO1 l[i]).length := List.length_append
    rw [hl2, hlen]
    simp only [List.length_singleton]
    omega
theorem of_put {c r : Int} {l : List OpT} (h : chkB c r l = 0) : ofB (putB c r l) = ((c, r, l), 0) := by
  obtain ⟨⟨c0, c1⟩, ⟨r0, r1⟩, hl, _⟩ := chkB_ok h
  have hok := chkB_all h
  rw [putB_ok h]
  have hself := has_self (putH c r l ++ putOs l)
  have hsz : (⟨(putH c r l ++ putOs l).toArray⟩ : ByteArray).size = (putH c r l ++ putOs l).length := rfl
  generalize (⟨(putH c r l ++ putOs l).toArray⟩ : ByteArray) = T at hself hsz ⊢
  unfold putH at hself hsz
  simp only [List.append_assoc] at hself
  simp only [List.length_append] at hsz
  obtain ⟨h1, h2⟩ := has_app hself
  obtain ⟨h3, h4⟩ := has_app h2
  obtain ⟨h5, h6⟩ := has_app h4
  simp only [Nat.zero_add] at h3 h5 h6
  have q1 := numR_of (m := 2) c0 (by omega) (by omega) h1 (by omega)
  have q2 := numR_of (m := 1073741824) (by omega) r1 (by omega) h3 (by omega)
  have q3 := numR_of (m := 4) (by omega) (by omega) (by omega) h5 (by omega)
  have q4 := rd_put l [] hok h6 (by omega) l.length (Nat.le_refl _)
  rw [List.take_of_length_le (Nat.le_refl _), List.nil_append] at q4
  have q5 : endV T ((((putL c).length + (putL r).length + (putL ((l.length : Nat) : Int)).length + (putOs l).length : Nat) : Int)).toNat 0 = 0 := by
    unfold endV; rw [if_pos rfl, if_neg (by omega)]
  rw [ofB_at (by simpa using q1) q2 q3 q4 (by omega) q5, ofEnd_c (by omega) (by omega)]
theorem rd_nat (s : ByteArray) (a : Nat) (x : Int) (h : x = 0 → a ≤ s.size) : ∀ i, (rdN s i ([], (a : Int), x)).2.2 = 0 → x = 0 ∧ ∃ b : Nat, (rdN s i ([], (a : Int), x)).2.1 = b ∧ (rdN s i ([], (a : Int), x)).1.length = i ∧ eats s a (putOs (rdN s i ([], (a : Int), x)).1) b
  | 0, hx => by
    have hx' : x = 0 := hx
    exact ⟨hx', a, rfl, rfl, eats.nil (h hx')⟩
  | i + 1, hx => by
    obtain ⟨ls, ps, er, hq⟩ : ∃ ls ps er, rdN s i ([], (a : Int), x) = (ls, ps, er) := ⟨_, _, _, rfl⟩
    have ih := rd_nat s a x h i
    have e : rdN s (i + 1) ([], (a : Int), x) = rdStep s (rdN s i ([], (a : Int), x)) := rfl
    rw [hq] at ih e
    rw [e] at hx ⊢
    simp only [rdStep] at hx ⊢
    -- backwards: no error at the end, so none ahead
    have hpos : er = 0 → ∃ b : Nat, ps = b ∧ b ≤ s.size := fun he => by
      obtain ⟨_, b, h1, _, h2⟩ := ih he
      exact ⟨b, h1, h2.2.1⟩
    obtain ⟨k, a1, e1, ht⟩ : ∃ k a1 e1, textR s ps er 8 = (k, a1, e1) := ⟨_, _, _, rfl⟩
    simp only [ht] at hx ⊢
    obtain ⟨f, a2, e2, hf⟩ : ∃ f a2 e2, flagR s a1.toNat e1 = (f, a2, e2) := ⟨_, _, _, rfl⟩
    simp only [hf] at hx ⊢
    obtain ⟨t, a3, e3, hu⟩ : ∃ t a3 e3, textR s a2 e2 8 = (t, a3, e3) := ⟨_, _, _, rfl⟩
    simp only [hu] at hx ⊢
    subst hx
    have hu0 : (textR s a2 e2 8).2.2 = 0 := by rw [hu]
    have he2 : e2 = 0 := by
      by_cases h2 : e2 = 0
      · exact h2
      · rw [textR_err h2] at hu0; exact hu0
    subst he2
    have hf0 : (flagR s a1.toNat e1).2.2 = 0 := by rw [hf]
    have he1 : e1 = 0 := by
      by_cases h2 : e1 = 0
      · exact h2
      · rw [flagR_err h2] at hf0; exact hf0
    subst he1
    have ht0 : (textR s ps er 8).2.2 = 0 := by rw [ht]
    have her : er = 0 := by
      by_cases h2 : er = 0
      · exact h2
      · rw [textR_err h2] at ht0; exact ht0
    subst her
    obtain ⟨hx0, b, hb, hlen, he⟩ := ih rfl
    simp only at hb hlen he
    subst hb
    obtain ⟨_, b1, hb1, g1⟩ := textR_eats ht0
    rw [ht] at hb1 g1; simp only at hb1 g1
    subst hb1
    rw [Int.toNat_natCast] at hf hf0
    obtain ⟨_, b2, hb2, g2⟩ := flagR_eats (fun _ => g1.2.1) hf0
    rw [hf] at hb2 g2; simp only at hb2 g2
    subst hb2
    obtain ⟨_, b3, hb3, g3⟩ := textR_eats hu0
    rw [hu] at hb3 g3; simp only at hb3 g3
    subst hb3
    refine ⟨hx0, b3, rfl, by simp [hlen], ?_⟩
    rw [putOs_snoc]
    exact he.app ((g1.app g2).app g3)
theorem ofEnd_ok {c r x c2 r2 : Int} {l l2 : List OpT} (h : ofEnd c r l x = ((c2, r2, l2), 0)) : x = 0 ∧ chkB c2 r2 l2 = 0 ∧ c = c2 ∧ r = r2 ∧ l = l2 := by
  by_cases h1 : x ≠ 0
  · rw [ofEnd_a h1] at h; cases h; exact absurd rfl h1
  by_cases h2 : chkB c r l ≠ 0
  · rw [ofEnd_b h1 h2] at h
    have := (Prod.mk.inj h).2
    exact absurd this h2
  · rw [ofEnd_c h1 h2] at h; cases h
    exact ⟨by omega, by omega, rfl, rfl, rfl⟩
theorem of_chk {s : ByteArray} {c r : Int} {l : List OpT} (h : ofB s = ((c, r, l), 0)) : chkB c r l = 0 := (ofEnd_ok h).2.1
theorem numR_at' {s : ByteArray} {a : Nat} {x m n a1 : Int} (h : numR s a x m = (n, a1, 0)) : x = 0 ∧ ∃ b : Nat, a1 = b ∧ eats s a (putL n) b := by
  have h0 : (numR s a x m).2.2 = 0 := by rw [h]
  have := numR_eats h0
  rw [h] at this; exact this
theorem of_back {s : ByteArray} {c r : Int} {l : List OpT} (h : ofB s = ((c, r, l), 0)) : putB c r l = s := by
  have hc := of_chk h
  rw [putB_ok hc]
  rcases q1 : numR s 0 0 2 with ⟨c', a1, e1⟩
  rcases q2 : numR s a1 e1 1073741824 with ⟨r', a2, e2⟩
  rcases q3 : numR s a2 e2 4 with ⟨n, a3, e3⟩
  rcases q4 : rdN s n.toNat ([], a3, e3) with ⟨l', a4, e4⟩
  have hE := ofB_at q1 q2 q3 q4 rfl rfl
  rw [hE] at h
  obtain ⟨hx, _, rfl, rfl, rfl⟩ := ofEnd_ok h
  have e4' : e4 = 0 := by
    by_cases h1 : e4 = 0
    · exact h1
    · unfold endV at hx; rw [if_neg h1] at hx; exact hx
  subst e4'
  have hn0 := numR_le (s := s) (a := a2) (x := e2) (m := 4) (by omega)
  rw [q3] at hn0; simp only at hn0
  have k4 : (rdN s n.toNat ([], a3, e3)).2.2 = 0 := by rw [q4]
  have hp3 : e3 = 0 → 0 ≤ a3 ∧ a3 ≤ s.size := fun h1 => by
    have := numR_at (s := s) (a := a2) (x := e2) (m := 4) (by rw [q3]; exact h1)
    rw [q3] at this; exact this
  have e3' : e3 = 0 := by
    by_cases h1 : e3 = 0
    · exact h1
    · have hall : ∀ i, (rdN s i ([], a3, e3)).2.2 = e3 := fun i => by
        induction i with
        | zero => rfl
        | succ i ih =>
          show (rdStep s (rdN s i ([], a3, e3))).2.2 = e3
          rcases hq : rdN s i ([], a3, e3) with ⟨ls, ps, er⟩
          rw [hq] at ih; simp only at ih
          subst ih
          simp only [rdStep, textR_err h1, flagR_err h1]
      rw [hall] at k4; exact k4
  subst e3'
  obtain ⟨a0, rfl⟩ := Int.eq_ofNat_of_zero_le (hp3 rfl).1
  have h5 := rd_nat s a0 0 (fun _ => by have := (hp3 rfl).2; omega) n.toNat k4
  rw [q4] at h5
  obtain ⟨_, b4, hb4, hlen, g4⟩ := h5
  simp only at hb4 hlen g4
  subst hb4
  have hp2 : e2 = 0 := by
    by_cases h1 : e2 = 0
    · exact h1
    · rw [numR_err h1] at q3; cases q3; exact absurd rfl h1
  subst hp2
  have hp1 : e1 = 0 := by
    by_cases h1 : e1 = 0
    · exact h1
    · rw [numR_err h1] at q2; cases q2; exact absurd rfl h1
  subst hp1
  obtain ⟨_, b1, rfl, g1⟩ := numR_at' (a := 0) (by simpa using q1)
  obtain ⟨_, b2, rfl, g2⟩ := numR_at' q2
  obtain ⟨_, b3, hb3, g3⟩ := numR_at' q3
  obtain rfl : a0 = b3 := by have : (a0 : Int) = b3 := hb3; omega
  have hend := (endV_eats (s := s) (a := b4) (x := 0) (fun _ => g4.2.1) (by simpa using hx)).2
  subst hend
  have hnl : ((l'.length : Nat) : Int) = n := by rw [hlen]; omega
  refine eats.whole ?_
  unfold putH
  rw [hnl]
  exact ((g1.app g2).app g3).app g4

end Go.Proofs.Yteioaaegooebpaa

/- Package item: what is put is read, what is read is put; without the program. Conditions: none. -/
namespace Go.Proofs.Yteioaaegooebpaa
open Go.RowKit Go.PlainAid
set_option linter.unusedVariables false


theorem ofE_of {c r ts : Int} {l : List OpT} (h : chkB c r l = 0) (h0 : 0 ≤ ts) (h1 : ts < 18446744073709551616) : ofE (putE c r l ts) = ((c, r, l, ts), 0) := by
  have hb := of_put h
  have hsm := putB_small (c := c) (r := r) (l := l)
  rw [putE_ok h]
  have hself := has_self (putEL c r l ts)
  have hsz : (⟨(putEL c r l ts).toArray⟩ : ByteArray).size = (putEL c r l ts).length := rfl
  generalize (⟨(putEL c r l ts).toArray⟩ : ByteArray) = T at hself hsz ⊢
  unfold putEL at hself hsz
  simp only [List.length_append] at hsz
  obtain ⟨k1, k2⟩ := has_app hself
  simp only [Nat.zero_add] at k2
  have q1 := bigR_of (m := ts) h0 h1 k1 (by omega)
  have q2 := textR_of (m := 65536) (by omega) (by omega) k2 (by simp only [List.length_append]; omega)
  have q3 : endV T ((((putL ts).length + (putL ((putB c r l).size : Int) ++ (putB c r l).data.toList).length : Nat) : Int)).toNat 0 = 0 := by
    unfold endV; rw [if_pos rfl, if_neg (by simp only [List.length_append]; omega)]
  rw [ofE_at (by simpa using q1) q2 q3, ofEndE_c (by simp) (by rw [hb]; simp), hb]
theorem ofEndE_ok {n x : Int} {t : ByteArray} (h : (ofEndE n t x).2 = 0) : x = 0 ∧ (ofB t).2 = 0 ∧ ofEndE n t x = (((ofB t).1.1, (ofB t).1.2.1, (ofB t).1.2.2, n), 0) := by
  by_cases h1 : x ≠ 0
  · rw [ofEndE_a h1] at h; exact absurd h h1
  by_cases h2 : (ofB t).2 ≠ 0
  · rw [ofEndE_b h1 h2] at h; exact absurd h h2
  · exact ⟨by omega, by omega, ofEndE_c h1 h2⟩
theorem ofE_ts (s : ByteArray) : 0 ≤ (ofE s).1.2.2.2 ∧ (ofE s).1.2.2.2 < 18446744073709551616 := by
  have hb := bigR_le (s := s) (a := 0) (x := 0)
  show 0 ≤ (ofEndE _ _ _).1.2.2.2 ∧ (ofEndE _ _ _).1.2.2.2 < _
  unfold ofEndE
  split
  · exact ⟨Int.le_refl _, by show (0 : Int) < _; decide⟩
  · split
    · exact ⟨Int.le_refl _, by show (0 : Int) < _; decide⟩
    · exact hb
theorem backE {s : ByteArray} (h : (ofE s).2 = 0) : putE (ofE s).1.1 (ofE s).1.2.1 (ofE s).1.2.2.1 (ofE s).1.2.2.2 = s ∧ chkB (ofE s).1.1 (ofE s).1.2.1 (ofE s).1.2.2.1 = 0 := by
  rcases q1 : bigR s 0 0 with ⟨n, a1, e1⟩
  rcases q2 : textR s a1 e1 65536 with ⟨t, a2, e2⟩
  have hE := ofE_at q1 q2 rfl
  rw [hE] at h ⊢
  obtain ⟨hx, hb, he⟩ := ofEndE_ok h
  rw [he]
  simp only
  have hb' : ofB t = (((ofB t).1.1, (ofB t).1.2.1, (ofB t).1.2.2), 0) := by rw [← hb]
  have hc := of_chk hb'
  have hp := of_back hb'
  refine ⟨?_, hc⟩
  rw [putE_ok hc]
  have e2' : e2 = 0 := by
    by_cases h1 : e2 = 0
    · exact h1
    · unfold endV at hx; rw [if_neg h1] at hx; exact hx
  subst e2'
  have h2 : (textR s a1 e1 65536).2.2 = 0 := by rw [q2]
  have e1' : e1 = 0 := by
    by_cases h1 : e1 = 0
    · exact h1
    · rw [textR_err h1] at h2; exact h2
  subst e1'
  have h1 : (bigR s ((0 : Nat) : Int) 0).2.2 = 0 := by
    have : (bigR s 0 0).2.2 = 0 := by rw [q1]
    simpa using this
  obtain ⟨_, b1, hb1, g1⟩ := bigR_eats h1
  have q1' : bigR s ((0 : Nat) : Int) 0 = (n, a1, 0) := by simpa using q1
  rw [q1'] at hb1 g1
  simp only at hb1 g1
  subst hb1
  obtain ⟨_, b2, hb2, g2⟩ := textR_eats h2
  rw [q2] at hb2 g2
  simp only at hb2 g2
  subst hb2
  have hend := (endV_eats (s := s) (a := b2) (x := 0) (fun _ => g2.2.1) (by simpa using hx)).2
  subst hend
  refine eats.whole ?_
  unfold putEL
  rw [hp]
  exact g1.app g2
theorem ofE_zero {s : ByteArray} (h : (ofE s).2 ≠ 0) : (ofE s).1 = (0, 0, [], 0) := by
  have e : ofE s = ofEndE _ _ _ := rfl
  rw [e] at h ⊢
  unfold ofEndE at h ⊢
  split
  · rfl
  · split
    · rfl
    · rename_i h1 h2
      rw [if_neg h1, if_neg h2] at h; exact absurd rfl h
theorem backE_put {c r ts : Int} {l : List OpT} (h : chkB c r l = 0) (h0 : 0 ≤ ts ∧ ts < 18446744073709551616) : sameE c r l ts (ofE (putE c r l ts)).1.1 (ofE (putE c r l ts)).1.2.1 (ofE (putE c r l ts)).1.2.2.1 (ofE (putE c r l ts)).1.2.2.2 = true := by
  rw [ofE_of h h0.1 h0.2]; exact sameE_refl _ _ _ _
theorem backE_put0 {c r ts : Int} {l : List OpT} (h : chkB c r l = 0) (h0 : 0 ≤ ts ∧ ts < 18446744073709551616) : (ofE (putE c r l ts)).2 = 0 := by rw [ofE_of h h0.1 h0.2]
theorem putE_szB {c r ts : Int} {l : List OpT} : (putE c r l ts).size ≤ 9223372036854775807 := Nat.le_trans putE_small (by decide)

end Go.Proofs.Yteioaaegooebpaa
