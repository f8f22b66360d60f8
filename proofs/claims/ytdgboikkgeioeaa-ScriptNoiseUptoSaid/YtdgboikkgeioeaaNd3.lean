/- Put together: ScrDNb, ScrYNb, ScrENb, ScrFNb, ScrGNb, ScrHNb, ScrINb, ScrZNb, ScrJNb, ScrKNb, ScrSNb. Conditions: as each says. -/
import Derived.Test.YtdgboikkgeioeaaNd2
import Derived.Test.YtdgboikkgeioeaaNd1
import Derived.RangeFuncNested
import Derived.RangeFuncBound
import Derived.RangeFuncCalls
import Derived.RangeFuncLeaves
import Derived.RangeFuncBox
import Derived.Shelf.Abstract
import Derived.Shelf.RegionOpen
import Derived.WalkKit
import Derived.OwnWalkIn
import Derived.TacticsInMore
import Derived.LoopNIn
import Derived.LoopIn
import Derived.ScopeJumps
import Derived.Maps.AppendAt
import Derived.BigQuiet
import Derived.Laws.StructEq
/- Package script, pure: what a piece is read as; a number that is read, or thrown. Conditions: none. -/
namespace Go.Proofs.Ytdgboikkgeioeaa
open Go.RowKit Go.PlainAid
set_option linter.unusedVariables false
set_option linter.unusedSimpArgs false

def sdStep (s : ByteArray) (q : List OpT × Int × Int) : List OpT × Int × Int :=
  let t := textR s q.2.1 q.2.2 255
  let f := flagR s t.2.1.toNat t.2.2
  let u := textR s f.2.1 f.2.2 255
  (q.1 ++ [(t.1, u.1, f.1)], u.2.1, u.2.2)
def sdN (s : ByteArray) : Nat → List OpT × Int × Int → List OpT × Int × Int
  | 0, q => q
  | n + 1, q => sdStep s (sdN s n q)
section
variable {s : ByteArray} {k nd n ak an am at_ a x a1 x1 a2 x2 a3 x3 c : Int} {ky tt : ByteArray} {l : List OpT} {i : Nat}
theorem sdN_step {q0 : List OpT × Int × Int} {t u : ByteArray} {f : Bool} (h : sdN s i q0 = (l, a, x)) (h1 : textR s a x 255 = (t, a1, x1)) (h2 : flagR s a1.toNat x1 = (f, a2, x2)) (h3 : textR s a2 x2 255 = (u, a3, x3)) :
    sdN s (i + 1) q0 = (l ++ [(t, u, f)], a3, x3) := by
  show sdStep s (sdN s i q0) = _
  rw [h]; simp only [sdStep, h1, h2, h3]
/-- What is left to read, from the end on: the end; the operations; key, end and time; numbers. -/
def T0 (s : ByteArray) (d : EvD) (a x : Int) : Option EvD := if endV s a.toNat x = 0 then some d else none
def T1 (s : ByteArray) (k nd n ak an am at_ : Int) (ky tt : ByteArray) (a x : Int) : Option EvD :=
  T0 s ⟨k, nd, n, ak, an, ky, tt, at_, am, (sdN s (numR s a x 255).1.toNat ([], (numR s a x 255).2.1, (numR s a x 255).2.2)).1⟩ (sdN s (numR s a x 255).1.toNat ([], (numR s a x 255).2.1, (numR s a x 255).2.2)).2.1 (sdN s (numR s a x 255).1.toNat ([], (numR s a x 255).2.1, (numR s a x 255).2.2)).2.2
def T2 (s : ByteArray) (k nd n ak an am at_ : Int) (ky : ByteArray) (a x : Int) : Option EvD := T1 s k nd n ak an am at_ ky (textR s a x 255).1 (textR s a x 255).2.1 (textR s a x 255).2.2
def T3 (s : ByteArray) (k nd n ak an am at_ : Int) (a x : Int) : Option EvD := T2 s k nd n ak an am at_ (textR s a x 255).1 (textR s a x 255).2.1 (textR s a x 255).2.2
def T4 (s : ByteArray) (k nd n ak an am : Int) (a x : Int) : Option EvD := T3 s k nd n ak an am (bigR s a x).1 (bigR s a x).2.1 (bigR s a x).2.2
def T5 (s : ByteArray) (k nd n ak an : Int) (a x : Int) : Option EvD := T4 s k nd n ak an (numR s a x 1073741824).1 (numR s a x 1073741824).2.1 (numR s a x 1073741824).2.2
def T6 (s : ByteArray) (k nd n ak : Int) (a x : Int) : Option EvD := T5 s k nd n ak (numR s a x 1073741824).1 (numR s a x 1073741824).2.1 (numR s a x 1073741824).2.2
def T7 (s : ByteArray) (k nd n : Int) (a x : Int) : Option EvD := T6 s k nd n (numR s a x 1073741824).1 (numR s a x 1073741824).2.1 (numR s a x 1073741824).2.2
def zeD (k nd n : Int) : EvD := ⟨k, nd, n, 0, 0, ⟨#[]⟩, ⟨#[]⟩, 0, 0, []⟩
def T8 (s : ByteArray) (k nd n : Int) (a x : Int) : Option EvD := if x = 0 ∧ k = 0 then T7 s k nd n a x else T0 s (zeD k nd n) a x
def T9 (s : ByteArray) (k nd : Int) (a x : Int) : Option EvD := T8 s k nd (numR s a x 1073741824).1 (numR s a x 1073741824).2.1 (numR s a x 1073741824).2.2
def T10 (s : ByteArray) (k : Int) (a x : Int) : Option EvD := T9 s k (numR s a x 1073741824).1 (numR s a x 1073741824).2.1 (numR s a x 1073741824).2.2
/-- A piece as a step. -/
def evR (s : ByteArray) : Option EvD := T10 s (numR s 0 0 1073741824).1 (numR s 0 0 1073741824).2.1 (numR s 0 0 1073741824).2.2
theorem numR_x (h : x ≠ 0) {m : Int} : numR s a x m = (0, a, x) := by unfold numR; rw [if_pos h]
theorem T0_bad {d : EvD} (h : x ≠ 0) : T0 s d a x = none := by unfold T0 endV; rw [if_neg h, if_neg h]
theorem T0_y {d : EvD} (h : endV s a.toNat x = c) (hc : c = 0) : T0 s d a x = some d := by unfold T0; rw [h, if_pos hc]
theorem T0_n {d : EvD} (h : endV s a.toNat x = c) (hc : ¬ c = 0) : T0 s d a x = none := by unfold T0; rw [h, if_neg hc]
theorem sdN_x (h : x ≠ 0) : ∀ i : Nat, (sdN s i (l, a, x)).2.2 = x
  | 0 => rfl
  | i + 1 => by
    have ih := sdN_x h i
    show (sdStep s (sdN s i (l, a, x))).2.2 = x
    have h1 : (sdN s i (l, a, x)).2.2 ≠ 0 := by rw [ih]; exact h
    simp only [sdStep]; rw [textR_err h1, flagR_err h1, textR_err h1]; exact ih
theorem T1_bad (h : x ≠ 0) : T1 s k nd n ak an am at_ ky tt a x = none := by
  unfold T1; rw [numR_x h]; exact T0_bad (by rw [sdN_x h]; exact h)
theorem T2_bad (h : x ≠ 0) : T2 s k nd n ak an am at_ ky a x = none := by unfold T2; rw [textR_err h]; exact T1_bad h
theorem T3_bad (h : x ≠ 0) : T3 s k nd n ak an am at_ a x = none := by unfold T3; rw [textR_err h]; exact T2_bad h
theorem T4_bad (h : x ≠ 0) : T4 s k nd n ak an am a x = none := by unfold T4; rw [bigR_err h]; exact T3_bad h
theorem T5_bad (h : x ≠ 0) : T5 s k nd n ak an a x = none := by unfold T5; rw [numR_x h]; exact T4_bad h
theorem T6_bad (h : x ≠ 0) : T6 s k nd n ak a x = none := by unfold T6; rw [numR_x h]; exact T5_bad h
theorem T8_bad (h : x ≠ 0) : T8 s k nd n a x = none := by unfold T8; rw [if_neg (fun q => h q.1)]; exact T0_bad h
theorem T9_bad (h : x ≠ 0) : T9 s k nd a x = none := by unfold T9; rw [numR_x h]; exact T8_bad h
theorem T10_bad (h : x ≠ 0) : T10 s k a x = none := by unfold T10; rw [numR_x h]; exact T9_bad h
theorem T1_bad2 (h : numR s a x 255 = (c, a1, x1)) (hx : x1 ≠ 0) : T1 s k nd n ak an am at_ ky tt a x = none := by
  unfold T1; rw [h]; exact T0_bad (by show (sdN s c.toNat ([], a1, x1)).2.2 ≠ 0; rw [sdN_x hx]; exact hx)
theorem T1_at (h : numR s a x 255 = (c, a1, x1)) (hR : sdN s i ([], a1, x1) = (l, a2, x2)) (hi : c.toNat = i) : T1 s k nd n ak an am at_ ky tt a x = T0 s ⟨k, nd, n, ak, an, ky, tt, at_, am, l⟩ a2 x2 := by
  unfold T1; rw [h]; show T0 s ⟨k, nd, n, ak, an, ky, tt, at_, am, (sdN s c.toNat ([], a1, x1)).1⟩ (sdN s c.toNat ([], a1, x1)).2.1 (sdN s c.toNat ([], a1, x1)).2.2 = _; rw [hi, hR]
theorem T2_at {u : ByteArray} (h : textR s a x 255 = (u, a1, x1)) : T2 s k nd n ak an am at_ ky a x = T1 s k nd n ak an am at_ ky u a1 x1 := by unfold T2; rw [h]
theorem T3_at {u : ByteArray} (h : textR s a x 255 = (u, a1, x1)) : T3 s k nd n ak an am at_ a x = T2 s k nd n ak an am at_ u a1 x1 := by unfold T3; rw [h]
theorem T4_at (h : bigR s a x = (c, a1, x1)) : T4 s k nd n ak an am a x = T3 s k nd n ak an am c a1 x1 := by unfold T4; rw [h]
theorem T5_at (h : numR s a x 1073741824 = (c, a1, x1)) : T5 s k nd n ak an a x = T4 s k nd n ak an c a1 x1 := by unfold T5; rw [h]
theorem T6_at (h : numR s a x 1073741824 = (c, a1, x1)) : T6 s k nd n ak a x = T5 s k nd n ak c a1 x1 := by unfold T6; rw [h]
theorem T7_at (h : numR s a x 1073741824 = (c, a1, x1)) : T7 s k nd n a x = T6 s k nd n c a1 x1 := by unfold T7; rw [h]
theorem T8_y (h : x = 0) (hk : k = 0) : T8 s k nd n a x = T7 s k nd n a x := if_pos ⟨h, hk⟩
theorem T8_n (h : x ≠ 0 ∨ ¬ k = 0) : T8 s k nd n a x = T0 s (zeD k nd n) a x := if_neg (fun q => by rcases h with h | h; exact h q.1; exact h q.2)
theorem T9_at (h : numR s a x 1073741824 = (c, a1, x1)) : T9 s k nd a x = T8 s k nd c a1 x1 := by unfold T9; rw [h]
theorem T10_at (h : numR s a x 1073741824 = (c, a1, x1)) : T10 s k a x = T9 s k c a1 x1 := by unfold T10; rw [h]
theorem evR_at (h : numR s 0 0 1073741824 = (c, a1, x1)) : evR s = T10 s c a1 x1 := by unfold evR; rw [h]
end
set_option maxRecDepth 100000 in
set_option maxHeartbeats 1600000 in
theorem scNum_any (N b : Nat) (s : ByteArray) (a x m : Int) (w : World) (hN : Blk w N 161 #[pt b 0]) (hne : N ≠ b) (h : OR b s a x w) (hs : s.size ≤ 9223372036854775807) (h0 : 0 ≤ m) (hm : m ≤ 9223372036854775807) :
    Calls Try.prog 112 #[.int .i64 m, pt N 0] w fun e w' => (∃ n a' : Int, e = .returned (.int .i64 n) ∧ numR s a x m = (n, a', 0) ∧ 0 ≤ n ∧ n ≤ m ∧ OR b s a' 0 w' ∧ w.grownBy w' (some b)) ∨ ∃ n a' x' : Int, e = .panicked [thrown x'] ∧ x' ≠ 0 ∧ numR s a x m = (n, a', x') ∧ w.grownBy w' (some b) := by
  have HM := Lib.hid (or_num b s a x m w h hs h0 hm); have hc : w.cell? ⟨N, 0, none⟩ = some (.pointer (some ⟨b, 0, none⟩)) := hN.cell (k := 0) rfl
  have HN := Lib.hid hN
  clear h hN
  go_enter Try.func112, Try.ntmps112
  go_wp2_with fail
  refine HM.out.mono ?_
  rintro e w1 ⟨n, a', x', rfl, hq, h1, h2, ho, hg⟩
  have hc1 : w1.cell? ⟨N, 0, none⟩ = some (.pointer (some ⟨b, 0, none⟩)) := (HN.out.kept hg (fun e1 => hne (by simpa using e1.symm))).cell (k := 0) rfl
  have HE := Lib.hid (or_err b s a' x' w1 ho); have HG := Lib.hid hg; have HO := Lib.hid ho; have HQ := Lib.hid hq
  clear hg ho hq hc
  go_wp2_with fail
  refine HE.out.mono ?_
  rintro e w2 ⟨rfl, rfl⟩
  by_cases hx : x' = 0
  · subst hx
    go_wp2
    exact ⟨rfl, _, by simp [results, Try.results112], .inl ⟨n, a', rfl, HQ.out, h1, h2, HO.out, HG.out⟩⟩
  · go_wp2
    exact ⟨rfl, .inr ⟨n, a', x', rfl, hx, HQ.out, HG.out⟩⟩
end Go.Proofs.Ytdgboikkgeioeaa

/- Package script, pure: what is put is read; what is read is put. Conditions: none. -/
namespace Go.Proofs.Ytdgboikkgeioeaa
open Go.RowKit Go.PlainAid
set_option linter.unusedVariables false
set_option linter.unusedSimpArgs false

theorem sd_put {T : ByteArray} {a : Nat} (l acc : List OpT) (hok : ∀ z ∈ l, z.1.size ≤ 255 ∧ z.2.1.size ≤ 255) (hh : has T a (putOs l)) (hs : a + (putOs l).length ≤ T.size) :
    ∀ i, i ≤ l.length → sdN T i (acc, (a : Int), 0) = (acc ++ l.take i, ((a + (putOs (l.take i)).length : Nat) : Int), 0)
  | 0, _ => by simp [sdN, putOs]
  | i + 1, hi => by
    have ih := sd_put l acc hok hh hs i (by omega)
    have hy : l[i]? = some l[i] := List.getElem?_eq_getElem (by omega)
    have ht := takeO_at hy
    obtain ⟨k2, k3⟩ := hok l[i] (List.getElem_mem _)
    have e : putOs l = putOs (l.take i) ++ (putO1 l[i] ++ putOs (l.drop (i + 1))) := by
      rw [← List.append_assoc, ← putOs_snoc, ← ht]
      unfold putOs; rw [← List.flatMap_append, List.take_append_drop]
    rw [e] at hh hs
    obtain ⟨_, h2⟩ := has_app hh
    obtain ⟨h3, _⟩ := has_app h2
    unfold putO1 at h3
    rw [List.append_assoc] at h3
    obtain ⟨h4, h5⟩ := has_app h3
    obtain ⟨h6, h7⟩ := has_app h5
    have hlen : (putO1 l[i]).length = (putL (l[i].1.size : Int) ++ l[i].1.data.toList).length + (1 + (putL (l[i].2.1.size : Int) ++ l[i].2.1.data.toList).length) := by unfold putO1; simp only [List.length_append, List.length_singleton]; omega
    rw [List.length_append, List.length_append] at hs
    have q1 := textR_of (m := 255) (by omega) (by omega) h4 (by omega)
    have q2 := flagR_put h6 (by omega)
    have q3 := textR_of (m := 255) (by omega) (by omega) h7 (by simp only [List.length_singleton]; omega)
    rw [sdN_step ih q1 q2 q3, ht, putOs_snoc]
    refine Prod.ext (show acc ++ l.take i ++ [l[i]] = _ by rw [List.append_assoc]) (Prod.ext ?_ rfl)
    have hl2 : (putOs (l.take i) ++ putO1 l[i]).length = (putOs (l.take i)).length + (putO1 l[i]).length := List.length_append
    rw [hl2, hlen]
    simp only [List.length_singleton]
    omega
theorem sd_nat (s : ByteArray) (a : Nat) (x : Int) (h : x = 0 → a ≤ s.size) : ∀ i, (sdN s i ([], (a : Int), x)).2.2 = 0 → x = 0 ∧ ∃ b : Nat, (sdN s i ([], (a : Int), x)).2.1 = b ∧ (sdN s i ([], (a : Int), x)).1.length = i ∧ eats s a (putOs (sdN s i ([], (a : Int), x)).1) b
  | 0, hx => by
    have hx' : x = 0 := hx
    exact ⟨hx', a, rfl, rfl, eats.nil (h hx')⟩
  | i + 1, hx => by
    obtain ⟨ls, ps, er, hq⟩ : ∃ ls ps er, sdN s i ([], (a : Int), x) = (ls, ps, er) := ⟨_, _, _, rfl⟩
    have ih := sd_nat s a x h i
    have e : sdN s (i + 1) ([], (a : Int), x) = sdStep s (sdN s i ([], (a : Int), x)) := rfl
    rw [hq] at ih e
    rw [e] at hx ⊢
    simp only [sdStep] at hx ⊢
    -- backwards: no error at the end, so none ahead
    have hpos : er = 0 → ∃ b : Nat, ps = b ∧ b ≤ s.size := fun he => by
      obtain ⟨_, b, h1, _, h2⟩ := ih he
      exact ⟨b, h1, h2.2.1⟩
    obtain ⟨k, a1, e1, ht⟩ : ∃ k a1 e1, textR s ps er 255 = (k, a1, e1) := ⟨_, _, _, rfl⟩
    simp only [ht] at hx ⊢
    obtain ⟨f, a2, e2, hf⟩ : ∃ f a2 e2, flagR s a1.toNat e1 = (f, a2, e2) := ⟨_, _, _, rfl⟩
    simp only [hf] at hx ⊢
    obtain ⟨t, a3, e3, hu⟩ : ∃ t a3 e3, textR s a2 e2 255 = (t, a3, e3) := ⟨_, _, _, rfl⟩
    simp only [hu] at hx ⊢
    subst hx
    have hu0 : (textR s a2 e2 255).2.2 = 0 := by rw [hu]
    have he2 : e2 = 0 := by
      by_cases h2 : e2 = 0
      · exact h2
      · rw [textR_err h2] at hu0; exact hu0
    subst he2
    have hf0 : (flagR s a1.toNat e1).2.2 = 0 := by rw [hf]
    have he1 : e1 = 0 := by
      by_cases h2 : e1 = 0
      · exact h2
      · rw [flagR_err h2] at hf0; exact hf0
    subst he1
    have ht0 : (textR s ps er 255).2.2 = 0 := by rw [ht]
    have her : er = 0 := by
      by_cases h2 : er = 0
      · exact h2
      · rw [textR_err h2] at ht0; exact ht0
    subst her
    obtain ⟨hx0, b, hb, hlen, he⟩ := ih rfl
    simp only at hb hlen he
    subst hb
    obtain ⟨_, b1, hb1, g1⟩ := textR_eats ht0
    rw [ht] at hb1 g1; simp only at hb1 g1
    subst hb1
    rw [Int.toNat_natCast] at hf hf0
    obtain ⟨_, b2, hb2, g2⟩ := flagR_eats (fun _ => g1.2.1) hf0
    rw [hf] at hb2 g2; simp only at hb2 g2
    subst hb2
    obtain ⟨_, b3, hb3, g3⟩ := textR_eats hu0
    rw [hu] at hb3 g3; simp only at hb3 g3
    subst hb3
    refine ⟨hx0, b3, rfl, by simp [hlen], ?_⟩
    rw [putOs_snoc]
    exact he.app ((g1.app g2).app g3)

/-- A step as it is put: of any other kind without what is asked. -/
def cleanE (d : EvD) : EvD := if d.k = 0 then d else zeD d.k d.nd d.n
theorem putOs_len1 (l : List OpT) : l.length ≤ (putOs l).length ∧ ∀ z ∈ l, z.1.size ≤ (putOs l).length ∧ z.2.1.size ≤ (putOs l).length := by
  induction l with
  | nil => simp [putOs]
  | cons o r ih =>
    have e : (putOs (o :: r)).length = (putO1 o).length + (putOs r).length := by unfold putOs; rw [List.flatMap_cons, List.length_append]
    have e1 : o.1.size + o.2.1.size + 1 ≤ (putO1 o).length := by
      unfold putO1; simp only [List.length_append, List.length_singleton]
      have h1 : o.1.data.toList.length = o.1.size := by simp
      have h2 : o.2.1.data.toList.length = o.2.1.size := by simp
      omega
    refine ⟨by rw [List.length_cons]; omega, fun z hz => ?_⟩
    rcases List.mem_cons.1 hz with rfl | hz
    · omega
    · have := ih.2 z hz; omega
theorem putL_pos (n : Int) : 1 ≤ (putL n).length := by unfold putL; split <;> simp
theorem putOs_len3 (l : List OpT) : 3 * l.length ≤ (putOs l).length := by
  induction l with
  | nil => simp [putOs]
  | cons o r ih =>
    have e : (putOs (o :: r)).length = (putO1 o).length + (putOs r).length := by unfold putOs; rw [List.flatMap_cons, List.length_append]
    have e1 : 3 ≤ (putO1 o).length := by
      unfold putO1; simp only [List.length_append, List.length_singleton]
      have h1 := putL_pos ((o.1.size : Nat) : Int); have h2 := putL_pos ((o.2.1.size : Nat) : Int)
      omega
    rw [List.length_cons]; omega
/-- What is put is read. -/
theorem evR_put {d : EvD} (h : rngE d) (ht : 0 ≤ d.at_ ∧ d.at_ < 18446744073709551616) (hl : (evB d).length ≤ 255) : evR ⟨(evB d).toArray⟩ = some (cleanE d) := by
  have hr := h.1
  unfold mayJ at hr
  obtain ⟨⟨k0, k1⟩, ⟨d0, d1⟩, ⟨n0, n1⟩⟩ := hr
  have hself := has_self (evB d)
  have hsz : (⟨(evB d).toArray⟩ : ByteArray).size = (evB d).length := rfl
  by_cases hk : d.k = 0
  · have he : evB d = hedB d ++ askB d := if_pos hk
    have hq := h.2 hk
    unfold mayJ at hq
    obtain ⟨⟨a0, a1⟩, ⟨b0, b1⟩, ⟨m0, m1⟩⟩ := hq
    rw [he] at hself hsz hl ⊢
    generalize (⟨(hedB d ++ askB d).toArray⟩ : ByteArray) = T at hself hsz ⊢
    unfold hedB askB txB at hself hsz hl
    simp only [List.append_assoc] at hself
    simp only [List.length_append] at hsz hl
    have e1 : d.ky.data.toList.length = d.ky.size := by simp
    have e2 : d.tt.data.toList.length = d.tt.size := by simp
    obtain ⟨l1, l2⟩ := putOs_len1 d.ops
    obtain ⟨h1, g1⟩ := has_app hself
    obtain ⟨h2, g2⟩ := has_app g1
    obtain ⟨h3, g3⟩ := has_app g2
    obtain ⟨h4, g4⟩ := has_app g3
    obtain ⟨h5, g5⟩ := has_app g4
    obtain ⟨h6, g6⟩ := has_app g5
    obtain ⟨h7, g7⟩ := has_app g6
    rw [← List.append_assoc] at g7
    obtain ⟨h8, g8⟩ := has_app g7
    rw [← List.append_assoc] at g8
    obtain ⟨h9, g9⟩ := has_app g8
    obtain ⟨h10, h11⟩ := has_app g9
    simp only [Nat.zero_add] at h2 h3 h4 h5 h6 h7 h8 h9 h10 h11
    have q1 := numR_of (m := 1073741824) k0 k1 (by omega) h1 (by omega)
    have q2 := numR_of (m := 1073741824) d0 d1 (by omega) h2 (by omega)
    have q3 := numR_of (m := 1073741824) n0 n1 (by omega) h3 (by omega)
    have q4 := numR_of (m := 1073741824) a0 a1 (by omega) h4 (by omega)
    have q5 := numR_of (m := 1073741824) b0 b1 (by omega) h5 (by omega)
    have q6 := numR_of (m := 1073741824) m0 m1 (by omega) h6 (by omega)
    have q7 := bigR_of ht.1 ht.2 h7 (by omega)
    have q8 := textR_of (m := 255) (by omega) (by omega) h8 (by rw [List.length_append]; omega)
    have q9 := textR_of (m := 255) (by omega) (by omega) h9 (by simp only [List.length_append]; omega)
    have q10 := numR_of (m := 255) (n := ((d.ops.length : Nat) : Int)) (by omega) (by omega) (by omega) h10 (by simp only [List.length_append]; omega)
    have q11 := sd_put d.ops [] (fun z hz => by have := l2 z hz; omega) h11 (by simp only [List.length_append]; omega) d.ops.length (Nat.le_refl _)
    rw [List.take_of_length_le (Nat.le_refl _), List.nil_append] at q11
    simp only [List.length_append, Nat.zero_add] at q1 q2 q3 q4 q5 q6 q7 q8 q9 q10 q11
    rw [evR_at (by simpa using q1), T10_at q2, T9_at q3, T8_y rfl hk, T7_at q4, T6_at q5, T5_at q6, T4_at q7, T3_at q8, T2_at q9, T1_at q10 q11 (by omega)]
    rw [T0_y (c := 0) (by unfold endV; rw [if_pos rfl, if_neg (by omega)]) rfl]
    unfold cleanE; rw [if_pos hk]
  · have he : evB d = hedB d := if_neg hk
    rw [he] at hself hsz hl ⊢
    generalize (⟨(hedB d).toArray⟩ : ByteArray) = T at hself hsz ⊢
    unfold hedB at hself hsz hl
    simp only [List.append_assoc] at hself
    simp only [List.length_append] at hsz hl
    obtain ⟨h1, g1⟩ := has_app hself
    obtain ⟨h2, h3⟩ := has_app g1
    simp only [Nat.zero_add] at h2 h3
    have q1 := numR_of (m := 1073741824) k0 k1 (by omega) h1 (by omega)
    have q2 := numR_of (m := 1073741824) d0 d1 (by omega) h2 (by omega)
    have q3 := numR_of (m := 1073741824) n0 n1 (by omega) h3 (by omega)
    simp only [Nat.zero_add] at q1 q2 q3
    rw [evR_at (by simpa using q1), T10_at q2, T9_at q3, T8_n (.inr hk), T0_y (c := 0) (by unfold endV; rw [if_pos rfl, if_neg (by omega)]) rfl]
    unfold cleanE; rw [if_neg hk]
theorem numR_in {s : ByteArray} {a x m n a1 e1 : Int} (h : numR s a x m = (n, a1, e1)) (hm : 0 ≤ m) : 0 ≤ n ∧ n ≤ m := by
  have := numR_le (s := s) (a := a) (x := x) hm; rw [h] at this; exact this
theorem none_ne {d : EvD} {x : Int} {o : Option EvD} (h : o = some d) (hb : x ≠ 0 → o = none) : x = 0 := by
  apply Classical.byContradiction; intro q; rw [hb q] at h; cases h
theorem bigR_at' {s : ByteArray} {a : Nat} {x n a1 : Int} (h : bigR s a x = (n, a1, 0)) : ∃ b : Nat, a1 = b ∧ eats s a (putL n) b := by
  have := bigR_eats (s := s) (a := a) (x := x) (by rw [h]); rw [h] at this; exact this.2
theorem textR_at' {s t : ByteArray} {a : Nat} {x m a1 : Int} (h : textR s a x m = (t, a1, 0)) : ∃ b : Nat, a1 = b ∧ eats s a (putL ((t.size : Nat) : Int) ++ t.data.toList) b := by
  have := textR_eats (s := s) (a := a) (x := x) (m := m) (by rw [h]); rw [h] at this; exact this.2
/-- What is read is put. -/
theorem evR_back {s : ByteArray} {d : EvD} (h : evR s = some d) : evB d = s.data.toList ∧ rngE d ∧ cleanE d = d ∧ (0 ≤ d.at_ ∧ d.at_ < 18446744073709551616) := by
  obtain ⟨⟨k, a1, x1⟩, h1⟩ : ∃ q, numR s 0 0 1073741824 = q := ⟨_, rfl⟩
  rw [evR_at h1] at h
  obtain rfl := none_ne h (fun q => T10_bad q)
  obtain ⟨_, b1, rfl, e1⟩ := numR_at' (a := 0) h1
  obtain ⟨⟨nd, a2, x2⟩, h2⟩ : ∃ q, numR s b1 0 1073741824 = q := ⟨_, rfl⟩
  rw [T10_at h2] at h
  obtain rfl := none_ne h (fun q => T9_bad q)
  obtain ⟨_, b2, rfl, e2⟩ := numR_at' h2
  obtain ⟨⟨n, a3, x3⟩, h3⟩ : ∃ q, numR s b2 0 1073741824 = q := ⟨_, rfl⟩
  rw [T9_at h3] at h
  obtain rfl := none_ne h (fun q => T8_bad q)
  obtain ⟨_, b3, rfl, e3⟩ := numR_at' h3
  have i1 := numR_in h1 (by omega); have i2 := numR_in h2 (by omega); have i3 := numR_in h3 (by omega)
  have e123 := (e1.app e2).app e3
  by_cases hk : k = 0
  · rw [T8_y rfl hk] at h
    obtain ⟨⟨ak, a4, x4⟩, h4⟩ : ∃ q, numR s b3 0 1073741824 = q := ⟨_, rfl⟩
    rw [T7_at h4] at h
    obtain rfl := none_ne h (fun q => T6_bad q)
    obtain ⟨_, b4, rfl, e4⟩ := numR_at' h4
    obtain ⟨⟨an, a5, x5⟩, h5⟩ : ∃ q, numR s b4 0 1073741824 = q := ⟨_, rfl⟩
    rw [T6_at h5] at h
    obtain rfl := none_ne h (fun q => T5_bad q)
    obtain ⟨_, b5, rfl, e5⟩ := numR_at' h5
    obtain ⟨⟨am, a6, x6⟩, h6⟩ : ∃ q, numR s b5 0 1073741824 = q := ⟨_, rfl⟩
    rw [T5_at h6] at h
    obtain rfl := none_ne h (fun q => T4_bad q)
    obtain ⟨_, b6, rfl, e6⟩ := numR_at' h6
    obtain ⟨⟨at_, a7, x7⟩, h7⟩ : ∃ q, bigR s b6 0 = q := ⟨_, rfl⟩
    rw [T4_at h7] at h
    obtain rfl := none_ne h (fun q => T3_bad q)
    obtain ⟨b7, rfl, e7⟩ := bigR_at' h7
    obtain ⟨⟨ky, a8, x8⟩, h8⟩ : ∃ q, textR s b7 0 255 = q := ⟨_, rfl⟩
    rw [T3_at h8] at h
    obtain rfl := none_ne h (fun q => T2_bad q)
    obtain ⟨b8, rfl, e8⟩ := textR_at' h8
    obtain ⟨⟨tt, a9, x9⟩, h9⟩ : ∃ q, textR s b8 0 255 = q := ⟨_, rfl⟩
    rw [T2_at h9] at h
    obtain rfl := none_ne h (fun q => T1_bad q)
    obtain ⟨b9, rfl, e9⟩ := textR_at' h9
    obtain ⟨⟨c, a10, x10⟩, h10⟩ : ∃ q, numR s b9 0 255 = q := ⟨_, rfl⟩
    obtain rfl := none_ne h (fun q => T1_bad2 h10 q)
    obtain ⟨_, b10, rfl, e10⟩ := numR_at' h10
    obtain ⟨⟨l, a11, x11⟩, h11⟩ : ∃ q, sdN s c.toNat ([], (b10 : Int), 0) = q := ⟨_, rfl⟩
    rw [T1_at h10 h11 rfl] at h
    obtain rfl := none_ne h (fun q => T0_bad q)
    obtain ⟨_, b11, g1, g2, e11⟩ := sd_nat s b10 0 (fun _ => e10.2.1) c.toNat (by rw [h11])
    rw [h11] at g1 g2 e11; simp only at g1 g2 e11; subst g1
    have i4 := numR_in h4 (by omega); have i5 := numR_in h5 (by omega); have i6 := numR_in h6 (by omega); have i10 := numR_in h10 (by omega)
    have hend : endV s (b11 : Int).toNat 0 = 0 := by
      apply Classical.byContradiction; intro q; rw [T0_n rfl q] at h; cases h
    rw [T0_y rfl hend] at h
    obtain ⟨_, he⟩ := endV_eats (fun _ => by simpa using e11.2.1) hend
    cases h
    have ec : ((l.length : Nat) : Int) = c := by omega
    have all := (((((((e123.app e4).app e5).app e6).app e7).app e8).app e9).app e10).app e11
    rw [show b11 = s.size by simpa using he] at all
    have hb : evB ⟨k, nd, n, ak, an, ky, tt, at_, am, l⟩ = s.data.toList := by
      have hw := congrArg (fun t : ByteArray => t.data.toList) all.whole
      rw [← hw, show evB ⟨k, nd, n, ak, an, ky, tt, at_, am, l⟩ = _ from if_pos hk]
      simp only [hedB, askB, txB, ec, List.append_assoc]
    refine ⟨hb, ⟨⟨i1, i2, i3⟩, fun _ => ⟨i4, i5, i6⟩⟩, if_pos hk, ?_⟩
    have := bigR_le (s := s) (a := (b6 : Int)) (x := 0); rw [h7] at this; exact this
  · rw [T8_n (.inr hk)] at h
    have hend : endV s (b3 : Int).toNat 0 = 0 := by
      apply Classical.byContradiction; intro q; rw [T0_n rfl q] at h; cases h
    rw [T0_y rfl hend] at h
    obtain ⟨_, he⟩ := endV_eats (fun _ => by simpa using e3.2.1) hend
    cases h
    rw [show b3 = s.size by simpa using he] at e123
    refine ⟨?_, ⟨⟨i1, i2, i3⟩, fun q => absurd q hk⟩, if_neg hk, ⟨Int.le_refl _, (by decide : (0 : Int) < 18446744073709551616)⟩⟩
    have hw := congrArg (fun t : ByteArray => t.data.toList) e123.whole
    rw [← hw, show evB (zeD k nd n) = _ from if_neg hk]; simp [hedB, zeD]
end Go.Proofs.Ytdgboikkgeioeaa

/- Package script: parts, which throws what is wrong. Conditions: none. -/
namespace Go.Proofs.Ytdgboikkgeioeaa
open Go.RowKit Go.PlainAid
set_option linter.unusedVariables false
set_option linter.unusedSimpArgs false

set_option maxRecDepth 100000 in
set_option maxHeartbeats 3200000 in
theorem scParts_any (s : ByteArray) (w : World) (hsz : s.size ≤ 9223372036854775807) :
    Calls Try.prog 83 #[.string s] w fun e w' => (∃ (d : EvD) (u : Value), e = .returned (.agg #[.int .i64 d.k, .int .i64 d.nd, .int .i64 d.n, .int .i64 d.ak, .int .i64 d.an, .string d.ky, .string d.tt, .int .u64 d.at_, .int .i64 d.am, u]) ∧ w'.ownsRow w.heap.size 66 3 u d.ops.length (d.ops.flatMap opE) ∧ evR s = some d ∧ Below w.heap.size w w') ∨ ∃ l, e = .panicked l ∧ (fun l x => evR s = none ∧ (∃ k, l = [thrown k]) ∧ Below w.heap.size w x) l w' := by
 have hB0 := Below.refl w.heap.size w
 refine co_enter (n := 60) Try.func83 rfl rfl rfl [(0, .string s)] rfl (fun a h0 => ?_)
 refine co_seq ?_
 refine co_reg ?_
 refine pw h0 rfl (op_new (v := fun N => pt N 0) (T := 60) (cs := #[.int .i64 0, .int .i64 0, .int .i64 0, .int .i64 0, .int .i64 0, .string (⟨#[]⟩), .string (⟨#[]⟩), .int .u64 0, .int .i64 0, .slice none 0 0]) (by kernel_rfl) (by kernel_rfl) (by kernel_rfl)) ?_; clear h0
 rintro _ w2 a1 ⟨N3, rfl, hN6, hz7, hk5, hg4⟩ h1
 have hz8 := hg4.size
 try dsimp only at h1
 refine pl_nil ?_
 refine co_then ?_
 refine co_seq ?_
 refine co_reg ?_
 refine pk0 (v := .string s) h1 rfl fun a9 h9 => ?_; clear h1
 refine pw h9 rfl (op_call (args := #[.string s]) (R := fun res xw => ∃ b : Nat, res = pt b 0 ∧ b = w2.heap.size ∧ OR b s 0 0 xw ∧ Below w2.heap.size w2 xw) rfl rfl rfl (by kernel_rfl) (by kernel_rfl) (Try.call111 _ _) (or_open s w2) (by rintro e x ⟨b, rfl, h0, h1, h2⟩; exact ⟨_, rfl, b, rfl, h0, h1, h2⟩)) ?_; clear h9
 rintro _ w11 a10 ⟨b12, rfl, hN13, ho14, hb15⟩ h10
 have hz16 := hb15.size
 have hl17 := ho14.lt
 refine pw h10 rfl (op_new (v := fun N => pt N 0) (T := 161) (cs := #[.pointer none]) (by kernel_rfl) (by kernel_rfl) (by kernel_rfl)) ?_; clear h10
 rintro _ w19 a18 ⟨N20, rfl, hN23, hz24, hk22, hg21⟩ h18
 have hz25 := hg21.size
 try dsimp only at h18
 refine pwD h18 rfl (op_store1 rfl rfl rfl rfl Try.sizeOf161 hk22 rfl) ?_; clear h18
 rintro _ w27 a26 ⟨hk28, hz29, hg30⟩ h26
 have hk28' : Blk w27 N20 161 #[pt b12 0] := hk28; clear hk28
 have hz31 := hg30.size
 refine pl_nil ?_
 refine co_then ?_
 refine co_seq ?_
 refine co_reg ?_
 refine pk0 (v := .func (.func 112) #[] #[pt N20 0]) h26 rfl fun a32 h32 => ?_; clear h26
 refine pk0 (v := .func (.func 112) #[] #[pt N20 0]) h32 rfl fun a33 h33 => ?_; clear h32
 refine pl_nil ?_
 refine co_then ?_
 refine co_seq ?_
 refine co_reg ?_
 refine pk0 (v := .func (.func 112) #[] #[pt N20 0]) h33 rfl fun a34 h34 => ?_; clear h33
 have hB44 := hb_new hB0 hg4
 have hB45 := hb_call hB44 hb15
 have hB46 := hb_new hB45 hg21
 have hB47 := hb_at hB46 hg30 (by omega)
 have hk48 := hk5.below hb15
 have hk49 := hk48.kept hg21 (by simp)
 have hk50 := hk49.kept hg30 (by simp; omega)
 have ho51 := ho14.new hg21
 have ho52 := ho51.at (by omega) hg30
 refine pwX h34 rfl (by intro l _ _ h hd; (repeat (first | refine co_thenP ?_ | refine co_blockP ?_)); exact body_pan hd (.inr ⟨l, rfl, h⟩)) (op_callVX (X := fun l x => evR s = none ∧ (∃ k, l = [thrown k]) ∧ Below w.heap.size w x) (args := #[.int .i64 1073741824, pt N20 0]) (R := fun res xw => ∃ n a' : Int, res = .int .i64 n ∧ numR s 0 0 1073741824 = (n, a', 0) ∧ 0 ≤ n ∧ n ≤ 1073741824 ∧ OR b12 s a' 0 xw ∧ w27.grownBy xw (some b12)) rfl rfl rfl (by kernel_rfl) (by kernel_rfl) (Try.call112 _ _) (scNum_any N20 b12 s 0 0 1073741824 w27 hk28' (by omega) ho52 (by omega) (by omega) (by omega)) (by rintro q x (⟨n, a', rfl, h0, h1, h2, h3, h4⟩ | ⟨n, a', x', rfl, hx, h0, h4⟩); exact .inl ⟨_, rfl, n, a', rfl, h0, h1, h2, h3, h4⟩; exact .inr ⟨_, rfl, ((evR_at h0).trans (T10_bad hx)), ⟨x', rfl⟩, hb_at hB47 h4 (by omega)⟩)) ?_; clear h34
 rintro _ w36 a35 ⟨n37, a38, rfl, hq39, hn40, hm41, ho42, hg43⟩ h35
 have hz53 := hg43.size
 have hl54 := ho42.lt
 have hT55 := (evR_at hq39)
 refine pk0 (v := .func (.func 112) #[] #[pt N20 0]) h35 rfl fun a56 h56 => ?_; clear h35
 have hB66 := hb_at hB47 hg43 (by omega)
 have hk67 := hk28'.kept hg43 (by simp; omega)
 refine pwX h56 rfl (by intro l _ _ h hd; (repeat (first | refine co_thenP ?_ | refine co_blockP ?_)); exact body_pan hd (.inr ⟨l, rfl, h⟩)) (op_callVX (X := fun l x => evR s = none ∧ (∃ k, l = [thrown k]) ∧ Below w.heap.size w x) (args := #[.int .i64 1073741824, pt N20 0]) (R := fun res xw => ∃ n a' : Int, res = .int .i64 n ∧ numR s a38 0 1073741824 = (n, a', 0) ∧ 0 ≤ n ∧ n ≤ 1073741824 ∧ OR b12 s a' 0 xw ∧ w36.grownBy xw (some b12)) rfl rfl rfl (by kernel_rfl) (by kernel_rfl) (Try.call112 _ _) (scNum_any N20 b12 s a38 0 1073741824 w36 hk67 (by omega) ho42 (by omega) (by omega) (by omega)) (by rintro q x (⟨n, a', rfl, h0, h1, h2, h3, h4⟩ | ⟨n, a', x', rfl, hx, h0, h4⟩); exact .inl ⟨_, rfl, n, a', rfl, h0, h1, h2, h3, h4⟩; exact .inr ⟨_, rfl, (hT55.trans ((T10_at h0).trans (T9_bad hx))), ⟨x', rfl⟩, hb_at hB66 h4 (by omega)⟩)) ?_; clear h56
 rintro _ w58 a57 ⟨n59, a60, rfl, hq61, hn62, hm63, ho64, hg65⟩ h57
 have hz68 := hg65.size
 have hl69 := ho64.lt
 have hT70 := (hT55.trans (T10_at hq61))
 refine pk0 (v := .func (.func 112) #[] #[pt N20 0]) h57 rfl fun a71 h71 => ?_; clear h57
 have hB81 := hb_at hB66 hg65 (by omega)
 have hk82 := hk50.kept hg43 (by simp; omega)
 have hk83 := hk82.kept hg65 (by simp; omega)
 have hk84 := hk67.kept hg65 (by simp; omega)
 refine pwX h71 rfl (by intro l _ _ h hd; (repeat (first | refine co_thenP ?_ | refine co_blockP ?_)); exact body_pan hd (.inr ⟨l, rfl, h⟩)) (op_callVX (X := fun l x => evR s = none ∧ (∃ k, l = [thrown k]) ∧ Below w.heap.size w x) (args := #[.int .i64 1073741824, pt N20 0]) (R := fun res xw => ∃ n a' : Int, res = .int .i64 n ∧ numR s a60 0 1073741824 = (n, a', 0) ∧ 0 ≤ n ∧ n ≤ 1073741824 ∧ OR b12 s a' 0 xw ∧ w58.grownBy xw (some b12)) rfl rfl rfl (by kernel_rfl) (by kernel_rfl) (Try.call112 _ _) (scNum_any N20 b12 s a60 0 1073741824 w58 hk84 (by omega) ho64 (by omega) (by omega) (by omega)) (by rintro q x (⟨n, a', rfl, h0, h1, h2, h3, h4⟩ | ⟨n, a', x', rfl, hx, h0, h4⟩); exact .inl ⟨_, rfl, n, a', rfl, h0, h1, h2, h3, h4⟩; exact .inr ⟨_, rfl, (hT70.trans ((T9_at h0).trans (T8_bad hx))), ⟨x', rfl⟩, hb_at hB81 h4 (by omega)⟩)) ?_; clear h71
 rintro _ w73 a72 ⟨n74, a75, rfl, hq76, hn77, hm78, ho79, hg80⟩ h72
 have hz85 := hg80.size
 have hl86 := ho79.lt
 have hT87 := (hT70.trans (T9_at hq76))
 refine pk0 (v := .agg #[.int .i64 n37, .int .i64 n59, .int .i64 n74, .int .i64 0, .int .i64 0, .string (⟨#[]⟩), .string (⟨#[]⟩), .int .u64 0, .int .i64 0, .slice none 0 0]) h72 rfl fun a88 h88 => ?_; clear h72
 refine pw h88 rfl (op_new (v := fun N => pt N 0) (T := 60) (cs := #[.int .i64 0, .int .i64 0, .int .i64 0, .int .i64 0, .int .i64 0, .string (⟨#[]⟩), .string (⟨#[]⟩), .int .u64 0, .int .i64 0, .slice none 0 0]) (by kernel_rfl) (by kernel_rfl) (by kernel_rfl)) ?_; clear h88
 rintro _ w90 a89 ⟨N91, rfl, hN94, hz95, hk93, hg92⟩ h89
 have hz96 := hg92.size
 try dsimp only at h89
 refine pwD h89 rfl (op_storeN rfl rfl rfl (all_cons rfl (all_cons rfl (all_cons rfl (all_cons rfl (all_cons rfl (all_cons rfl (all_cons rfl (all_cons rfl (all_cons rfl (all_cons rfl all_nil)))))))))) (by kernel_rfl) hk93 rfl) ?_; clear h89
 rintro _ w98 a97 ⟨hk99, hz100, hg101⟩ h97
 have hk99' : Blk w98 N91 60 #[.int .i64 n37, .int .i64 n59, .int .i64 n74, .int .i64 0, .int .i64 0, .string (⟨#[]⟩), .string (⟨#[]⟩), .int .u64 0, .int .i64 0, .slice none 0 0] := hk99; clear hk99
 have hz102 := hg101.size
 refine pl_nil ?_
 refine co_then ?_
 refine co_seq ?_
 refine co_seq ?_
 refine co_reg ?_
 refine pk0 (v := pt N91 0) h97 rfl fun a103 h103 => ?_; clear h97
 refine pk (v := .int .i64 n37) h103 rfl (rn_load1 rfl rfl Try.isAgg3 (hk99'.cell rfl)) fun a104 h104 => ?_; clear h103
 refine pk0 (v := .bool (n37 == 0)) h104 rfl fun a105 h105 => ?_; clear h104
 refine pl_nil ?_
 refine co_then ?_
 have hB107 := hb_at hB81 hg80 (by omega)
 have hB108 := hb_new hB107 hg92
 have hB109 := hb_at hB108 hg101 (by omega)
 have hk110 := hk83.kept hg80 (by simp; omega)
 have hk111 := hk110.kept hg92 (by simp)
 have hk112 := hk111.kept hg101 (by simp; omega)
 have hk113 := hk84.kept hg80 (by simp; omega)
 have hk114 := hk113.kept hg92 (by simp)
 have hk115 := hk114.kept hg101 (by simp; omega)
 have ho116 := ho79.new hg92
 have ho117 := ho116.at (by omega) hg101
 cases hc106 : (n37 == 0)
 ·
  rw [hc106] at h105
  have hp118 : ¬ (n37 = 0) := by first | simpa using hc106 | simpa [and_assoc] using hc106
  clear hc106
  refine co_false h105 rfl ?_
  refine wp_skip ?_
  refine co_then ?_
  refine co_seq ?_
  refine co_seq ?_
  refine co_reg ?_
  refine pk (v := pt b12 0) h105 rfl (rn_load1 rfl rfl Try.isAgg161 (hk115.cell rfl)) fun a119 h119 => ?_; clear h105
  refine pw h119 rfl (op_call (args := #[pt b12 0]) (R := fun res xw => ∃ r : Int, res = .int .i64 r ∧ endV s a75.toNat 0 = r ∧ Below w98.heap.size w98 xw) rfl rfl rfl (by kernel_rfl) (by kernel_rfl) (Try.call118 _ _) (or_end b12 s a75 0 w98 ho117 (by omega)) (by rintro e x ⟨r, rfl, h0, h2⟩; exact ⟨_, rfl, r, rfl, h0, h2⟩)) ?_; clear h119
  rintro _ w121 a120 ⟨r122, rfl, hq123, hb124⟩ h120
  have hz125 := hb124.size
  refine pk0 (v := .int .i64 r122) h120 rfl fun a126 h126 => ?_; clear h120
  refine pl_nil ?_
  refine co_then ?_
  refine co_seq ?_
  refine co_reg ?_
  refine pk0 (v := .int .i64 r122) h126 rfl fun a127 h127 => ?_; clear h126
  refine pk0 (v := .bool (r122 != 0)) h127 rfl fun a128 h128 => ?_; clear h127
  refine pl_nil ?_
  refine co_then ?_
  have hB130 := hb_call hB109 hb124
  cases hc129 : (r122 != 0)
  ·
   rw [hc129] at h128
   have hp131 : ¬ (r122 ≠ 0) := by first | simpa using hc129 | simpa [and_assoc] using hc129
   clear hc129
   refine co_false h128 rfl ?_
   refine wp_skip ?_
   refine co_then ?_
   refine co_seq ?_
   refine co_reg ?_
   have hk132 := hk99'.below hb124
   refine pk (v := .agg #[.int .i64 n37, .int .i64 n59, .int .i64 n74, .int .i64 0, .int .i64 0, .string (⟨#[]⟩), .string (⟨#[]⟩), .int .u64 0, .int .i64 0, .slice none 0 0]) h128 rfl (rn_loadN rfl rfl Try.underlying60 rfl (by kernel_rfl) hk132.all) fun a133 h133 => ?_; clear h128
   have hk139 := hk112.below hb124
   refine pwD h133 rfl (op_storeN rfl rfl rfl (all_cons rfl (all_cons rfl (all_cons rfl (all_cons rfl (all_cons rfl (all_cons rfl (all_cons rfl (all_cons rfl (all_cons rfl (all_cons rfl all_nil)))))))))) (by kernel_rfl) hk139 rfl) ?_; clear h133
   rintro _ w135 a134 ⟨hk136, hz137, hg138⟩ h134
   have hk136' : Blk w135 N3 60 #[.int .i64 n37, .int .i64 n59, .int .i64 n74, .int .i64 0, .int .i64 0, .string (⟨#[]⟩), .string (⟨#[]⟩), .int .u64 0, .int .i64 0, .slice none 0 0] := hk136; clear hk136
   have hz140 := hg138.size
   refine pl_nil ?_
   refine co_then ?_
   refine wp_ret ?_
   refine co_retC (Q := fun _ _ _ => True) h134 rfl rfl hk136' Try.underlying60 rfl (by kernel_rfl) ?_
   have hB141 := hb_at hB130 hg138 (by omega)
   exact .inl ⟨⟨n37, n59, n74, 0, 0, ⟨#[]⟩, ⟨#[]⟩, 0, 0, []⟩, _, rfl, (row_nilL _ _ _ _ _), hT87.trans ((T8_n (by omega)).trans (T0_y hq123 (by omega))), hB141⟩
  ·
   rw [hc129] at h128
   have hp142 : r122 ≠ 0 := by first | simpa using hc129 | simpa [and_assoc] using hc129
   clear hc129
   refine co_true h128 rfl ?_
   refine co_reg ?_
   refine pk0 (v := .int .i64 r122) h128 rfl fun a143 h143 => ?_; clear h128
   refine pk0 (v := .iface 44 (.int .i64 r122)) h143 rfl fun a144 h144 => ?_; clear h143
   refine pl_panic h144 rfl rfl (fun hd145 => ?_)
   repeat (first | refine co_thenP ?_ | refine co_blockP ?_)
   exact body_pan hd145 (.inr ⟨_, rfl, hT87.trans ((T8_n (by omega)).trans (T0_n hq123 (by omega))), ⟨_, rfl⟩, hB130⟩)
 ·
  rw [hc106] at h105
  have hp146 : n37 = 0 := by first | simpa using hc106 | simpa [and_assoc] using hc106
  clear hc106
  refine co_true h105 rfl ?_
  refine co_seq ?_
  refine p_dr_gen (X := fun l x => evR s = none ∧ (∃ k, l = [thrown k]) ∧ Below w.heap.size w x) (fun x => Below w.heap.size w x ∧ Blk x N20 161 #[pt b12 0]) (by intro l _ _ h hd; (repeat (first | refine co_thenP ?_ | refine co_blockP ?_)); exact body_pan hd (.inr ⟨l, rfl, h⟩)) (by kernel_rfl) (fun w147 hg148 => ?_) (fun w147 hg148 => ?_)
  ·
   have hz149 := hg148.size
   have hB150 := hb_new hB109 hg148
   have hk151 := hk115.kept hg148 (by simp)
   exact ⟨hB150, hk151⟩
  have hz152 := hg148.size
  have hB153 := hb_new hB109 hg148
  have hk154 := hk115.kept hg148 (by simp)
  refine p_dk0 0 (v := .func (.func 112) #[] #[pt N20 0]) h105 rfl rfl ⟨hB153, hk154⟩ fun a155 h155 => ?_; clear h105
  refine p_dk0 2 (v := .func (.func 112) #[] #[pt N20 0]) h155 rfl rfl ⟨hB153, hk154⟩ fun a156 h156 => ?_; clear h155
  refine p_dk0 4 (v := .func (.func 112) #[] #[pt N20 0]) h156 rfl rfl ⟨hB153, hk154⟩ fun a157 h157 => ?_; clear h156
  refine p_dk 6 (v := pt b12 0) h157 rfl rfl ⟨hB153, hk154⟩ (fun x hx => (rn_load1 rfl rfl Try.isAgg161 (hx.2.cell rfl))) fun a158 h158 => ?_; clear h157
  refine p_dk 8 (v := pt b12 0) h158 rfl rfl ⟨hB153, hk154⟩ (fun x hx => (rn_load1 rfl rfl Try.isAgg161 (hx.2.cell rfl))) fun a159 h159 => ?_; clear h158
  refine p_dk 10 (v := pt b12 0) h159 rfl rfl ⟨hB153, hk154⟩ (fun x hx => (rn_load1 rfl rfl Try.isAgg161 (hx.2.cell rfl))) fun a160 h160 => ?_; clear h159
  have hT163 := hT87.trans (T8_y (by first | rfl | omega) (by omega))
  have ho171 := ho117.new hg148
  refine px_d1 1 h160 rfl rfl (op_callVX (X := fun l x => evR s = none ∧ (∃ k, l = [thrown k]) ∧ Below w.heap.size w x) (args := #[.int .i64 1073741824, pt N20 0]) (R := fun res xw => ∃ n a' : Int, res = .int .i64 n ∧ numR s a75 0 1073741824 = (n, a', 0) ∧ 0 ≤ n ∧ n ≤ 1073741824 ∧ OR b12 s a' 0 xw ∧ w147.grownBy xw (some b12)) rfl rfl rfl (by kernel_rfl) (by kernel_rfl) (Try.call112 _ _) (scNum_any N20 b12 s a75 0 1073741824 w147 hk154 (by omega) ho171 (by omega) (by omega) (by omega)) (by rintro q x (⟨n, a', rfl, h0, h1, h2, h3, h4⟩ | ⟨n, a', x', rfl, hx, h0, h4⟩); exact .inl ⟨_, rfl, n, a', rfl, h0, h1, h2, h3, h4⟩; exact .inr ⟨_, rfl, (hT163.trans ((T7_at h0).trans (T6_bad hx))), ⟨x', rfl⟩, hb_at hB153 h4 (by omega)⟩)) ?_ ?_; clear h160
  ·
   rintro _ w162 ⟨n164, a165, rfl, hq166, hn167, hm168, ho169, hg170⟩
   have hz172 := hg170.size
   have hl173 := ho169.lt
   have hT174 := (hT163.trans (T7_at hq166))
   have hB175 := hb_at hB153 hg170 (by omega)
   have hk176 := hk154.kept hg170 (by simp; omega)
   exact ⟨hB175, hk176⟩
  rintro _ w162 a161 ⟨n164, a165, rfl, hq166, hn167, hm168, ho169, hg170⟩ h161
  have hz172 := hg170.size
  have hl173 := ho169.lt
  have hT174 := (hT163.trans (T7_at hq166))
  have hB175 := hb_at hB153 hg170 (by omega)
  have hk176 := hk154.kept hg170 (by simp; omega)
  have hk186 := hk112.kept hg148 (by simp)
  have hk187 := hk186.kept hg170 (by simp; omega)
  have hk188 := hk99'.kept hg148 (by simp)
  have hk189 := hk188.kept hg170 (by simp; omega)
  refine px_d1 3 h161 rfl rfl (op_callVX (X := fun l x => evR s = none ∧ (∃ k, l = [thrown k]) ∧ Below w.heap.size w x) (args := #[.int .i64 1073741824, pt N20 0]) (R := fun res xw => ∃ n a' : Int, res = .int .i64 n ∧ numR s a165 0 1073741824 = (n, a', 0) ∧ 0 ≤ n ∧ n ≤ 1073741824 ∧ OR b12 s a' 0 xw ∧ w162.grownBy xw (some b12)) rfl rfl rfl (by kernel_rfl) (by kernel_rfl) (Try.call112 _ _) (scNum_any N20 b12 s a165 0 1073741824 w162 hk176 (by omega) ho169 (by omega) (by omega) (by omega)) (by rintro q x (⟨n, a', rfl, h0, h1, h2, h3, h4⟩ | ⟨n, a', x', rfl, hx, h0, h4⟩); exact .inl ⟨_, rfl, n, a', rfl, h0, h1, h2, h3, h4⟩; exact .inr ⟨_, rfl, (hT174.trans ((T6_at h0).trans (T5_bad hx))), ⟨x', rfl⟩, hb_at hB175 h4 (by omega)⟩)) ?_ ?_; clear h161
  ·
   rintro _ w178 ⟨n179, a180, rfl, hq181, hn182, hm183, ho184, hg185⟩
   have hz190 := hg185.size
   have hl191 := ho184.lt
   have hT192 := (hT174.trans (T6_at hq181))
   have hB193 := hb_at hB175 hg185 (by omega)
   have hk194 := hk176.kept hg185 (by simp; omega)
   exact ⟨hB193, hk194⟩
  rintro _ w178 a177 ⟨n179, a180, rfl, hq181, hn182, hm183, ho184, hg185⟩ h177
  have hz190 := hg185.size
  have hl191 := ho184.lt
  have hT192 := (hT174.trans (T6_at hq181))
  have hB193 := hb_at hB175 hg185 (by omega)
  have hk194 := hk176.kept hg185 (by simp; omega)
  refine px_d1 5 h177 rfl rfl (op_callVX (X := fun l x => evR s = none ∧ (∃ k, l = [thrown k]) ∧ Below w.heap.size w x) (args := #[.int .i64 1073741824, pt N20 0]) (R := fun res xw => ∃ n a' : Int, res = .int .i64 n ∧ numR s a180 0 1073741824 = (n, a', 0) ∧ 0 ≤ n ∧ n ≤ 1073741824 ∧ OR b12 s a' 0 xw ∧ w178.grownBy xw (some b12)) rfl rfl rfl (by kernel_rfl) (by kernel_rfl) (Try.call112 _ _) (scNum_any N20 b12 s a180 0 1073741824 w178 hk194 (by omega) ho184 (by omega) (by omega) (by omega)) (by rintro q x (⟨n, a', rfl, h0, h1, h2, h3, h4⟩ | ⟨n, a', x', rfl, hx, h0, h4⟩); exact .inl ⟨_, rfl, n, a', rfl, h0, h1, h2, h3, h4⟩; exact .inr ⟨_, rfl, (hT192.trans ((T5_at h0).trans (T4_bad hx))), ⟨x', rfl⟩, hb_at hB193 h4 (by omega)⟩)) ?_ ?_; clear h177
  ·
   rintro _ w196 ⟨n197, a198, rfl, hq199, hn200, hm201, ho202, hg203⟩
   have hz204 := hg203.size
   have hl205 := ho202.lt
   have hT206 := (hT192.trans (T5_at hq199))
   have hB207 := hb_at hB193 hg203 (by omega)
   have hk208 := hk194.kept hg203 (by simp; omega)
   exact ⟨hB207, hk208⟩
  rintro _ w196 a195 ⟨n197, a198, rfl, hq199, hn200, hm201, ho202, hg203⟩ h195
  have hz204 := hg203.size
  have hl205 := ho202.lt
  have hT206 := (hT192.trans (T5_at hq199))
  have hB207 := hb_at hB193 hg203 (by omega)
  have hk208 := hk194.kept hg203 (by simp; omega)
  refine p_d1 7 h195 rfl rfl (op_call (args := #[pt b12 0]) (R := fun res xw => ∃ (n : Int) (a' e' : Int), res = .int .u64 n ∧ bigR s a198 0 = (n, a', e') ∧ 0 ≤ n ∧ n < 18446744073709551616 ∧ OR b12 s a' e' xw ∧ w196.grownBy xw (some b12)) rfl rfl rfl (by kernel_rfl) (by kernel_rfl) (Try.call115 _ _) (or_big b12 s a198 0 w196 ho202 (by omega)) (by rintro q x ⟨n, a', e', rfl, h0, k0, k1, h1, h2⟩; exact ⟨_, rfl, n, a', e', rfl, h0, k0, k1, h1, h2⟩)) ?_ ?_; clear h195
  ·
   rintro _ w210 ⟨n211, a212, e213, rfl, hq214, hn215, hm216, ho217, hg218⟩
   have hz219 := hg218.size
   have hl220 := ho217.lt
   have hT221 := (hT206.trans (T4_at hq214))
   have hB222 := hb_at hB207 hg218 (by omega)
   have hk223 := hk208.kept hg218 (by simp; omega)
   exact ⟨hB222, hk223⟩
  rintro _ w210 a209 ⟨n211, a212, e213, rfl, hq214, hn215, hm216, ho217, hg218⟩ h209
  have hz219 := hg218.size
  have hl220 := ho217.lt
  have hT221 := (hT206.trans (T4_at hq214))
  have hB222 := hb_at hB207 hg218 (by omega)
  have hk223 := hk208.kept hg218 (by simp; omega)
  refine p_d1 9 h209 rfl rfl (op_call (args := #[pt b12 0, .int .i64 255]) (R := fun res xw => ∃ (n : ByteArray) (a' e' : Int), res = .string n ∧ textR s a212 e213 255 = (n, a', e') ∧ (n.size : Int) ≤ 255 ∧ OR b12 s a' e' xw ∧ w210.grownBy xw (some b12)) rfl rfl rfl (by kernel_rfl) (by kernel_rfl) (Try.call116 _ _) (or_text b12 s a212 e213 255 w210 ho217 (by omega) (by omega) (by omega)) (by rintro q x ⟨n, a', e', rfl, h0, k0, h1, h2⟩; exact ⟨_, rfl, n, a', e', rfl, h0, k0, h1, h2⟩)) ?_ ?_; clear h209
  ·
   rintro _ w225 ⟨n226, a227, e228, rfl, hq229, hn230, ho232, hg233⟩
   have hz234 := hg233.size
   have hl235 := ho232.lt
   have hT236 := (hT221.trans (T3_at hq229))
   have hB237 := hb_at hB222 hg233 (by omega)
   have hk238 := hk223.kept hg233 (by simp; omega)
   exact ⟨hB237, hk238⟩
  rintro _ w225 a224 ⟨n226, a227, e228, rfl, hq229, hn230, ho232, hg233⟩ h224
  have hz234 := hg233.size
  have hl235 := ho232.lt
  have hT236 := (hT221.trans (T3_at hq229))
  have hB237 := hb_at hB222 hg233 (by omega)
  have hk238 := hk223.kept hg233 (by simp; omega)
  refine p_d1 11 h224 rfl rfl (op_call (args := #[pt b12 0, .int .i64 255]) (R := fun res xw => ∃ (n : ByteArray) (a' e' : Int), res = .string n ∧ textR s a227 e228 255 = (n, a', e') ∧ (n.size : Int) ≤ 255 ∧ OR b12 s a' e' xw ∧ w225.grownBy xw (some b12)) rfl rfl rfl (by kernel_rfl) (by kernel_rfl) (Try.call116 _ _) (or_text b12 s a227 e228 255 w225 ho232 (by omega) (by omega) (by omega)) (by rintro q x ⟨n, a', e', rfl, h0, k0, h1, h2⟩; exact ⟨_, rfl, n, a', e', rfl, h0, k0, h1, h2⟩)) ?_ ?_; clear h224
  ·
   rintro _ w240 ⟨n241, a242, e243, rfl, hq244, hn245, ho247, hg248⟩
   have hz249 := hg248.size
   have hl250 := ho247.lt
   have hT251 := (hT236.trans (T2_at hq244))
   have hB252 := hb_at hB237 hg248 (by omega)
   have hk253 := hk238.kept hg248 (by simp; omega)
   exact ⟨hB252, hk253⟩
  rintro _ w240 a239 ⟨n241, a242, e243, rfl, hq244, hn245, ho247, hg248⟩ h239
  have hz249 := hg248.size
  have hl250 := ho247.lt
  have hT251 := (hT236.trans (T2_at hq244))
  have hB252 := hb_at hB237 hg248 (by omega)
  have hk253 := hk238.kept hg248 (by simp; omega)
  refine p_dk0 12 (v := .agg #[.int .i64 n164, .int .i64 n179, .string n226, .string n241, .int .u64 n211, .int .i64 n197, .slice none 0 0]) h239 rfl rfl ⟨hB252, hk253⟩ fun a254 h254 => ?_; clear h239
  refine p_dk0 13 (v := pt N91 3) h254 rfl rfl ⟨hB252, hk253⟩ fun a255 h255 => ?_; clear h254
  have hk261 := hk189.kept hg185 (by simp; omega)
  have hk262 := hk261.kept hg203 (by simp; omega)
  have hk263 := hk262.kept hg218 (by simp; omega)
  have hk264 := hk263.kept hg233 (by simp; omega)
  have hk265 := hk264.kept hg248 (by simp; omega)
  refine p_d1D 14 h255 rfl rfl (op_storePart (k := 3) (cs' := #[.int .i64 n37, .int .i64 n59, .int .i64 n74, .int .i64 n164, .int .i64 n179, .string n226, .string n241, .int .u64 n211, .int .i64 n197, .slice none 0 0]) rfl rfl rfl (all_cons rfl (all_cons rfl (all_cons rfl (all_cons rfl (all_cons rfl (all_cons rfl (all_cons rfl all_nil))))))) (by kernel_rfl) hk265 rfl rfl) ?_ ?_; clear h255
  ·
   rintro _ w257 ⟨hk258, hz259, hg260⟩
   have hk258' : Blk w257 N91 60 #[.int .i64 n37, .int .i64 n59, .int .i64 n74, .int .i64 n164, .int .i64 n179, .string n226, .string n241, .int .u64 n211, .int .i64 n197, .slice none 0 0] := hk258; clear hk258
   have hz266 := hg260.size
   have hB267 := hb_at hB252 hg260 (by omega)
   have hk268 := hk253.kept hg260 (by simp; omega)
   exact ⟨hB267, hk268⟩
  rintro _ w257 a256 ⟨hk258, hz259, hg260⟩ h256
  have hk258' : Blk w257 N91 60 #[.int .i64 n37, .int .i64 n59, .int .i64 n74, .int .i64 n164, .int .i64 n179, .string n226, .string n241, .int .u64 n211, .int .i64 n197, .slice none 0 0] := hk258; clear hk258
  have hz266 := hg260.size
  refine p_dr_done (by kernel_rfl) ?_
  refine co_then ?_
  refine co_seq ?_
  refine co_reg ?_
  refine pk0 (v := .func (.func 112) #[] #[pt N20 0]) h256 rfl fun a267 h267 => ?_; clear h256
  have hB277 := hb_at hB252 hg260 (by omega)
  have hk278 := hk187.kept hg185 (by simp; omega)
  have hk279 := hk278.kept hg203 (by simp; omega)
  have hk280 := hk279.kept hg218 (by simp; omega)
  have hk281 := hk280.kept hg233 (by simp; omega)
  have hk282 := hk281.kept hg248 (by simp; omega)
  have hk283 := hk282.kept hg260 (by simp; omega)
  have hk284 := hk253.kept hg260 (by simp; omega)
  have ho285 := ho247.at (by omega) hg260
  refine pwX h267 rfl (by intro l _ _ h hd; (repeat (first | refine co_thenP ?_ | refine co_blockP ?_)); exact body_pan hd (.inr ⟨l, rfl, h⟩)) (op_callVX (X := fun l x => evR s = none ∧ (∃ k, l = [thrown k]) ∧ Below w.heap.size w x) (args := #[.int .i64 255, pt N20 0]) (R := fun res xw => ∃ n a' : Int, res = .int .i64 n ∧ numR s a242 e243 255 = (n, a', 0) ∧ 0 ≤ n ∧ n ≤ 255 ∧ OR b12 s a' 0 xw ∧ w257.grownBy xw (some b12)) rfl rfl rfl (by kernel_rfl) (by kernel_rfl) (Try.call112 _ _) (scNum_any N20 b12 s a242 e243 255 w257 hk284 (by omega) ho285 (by omega) (by omega) (by omega)) (by rintro q x (⟨n, a', rfl, h0, h1, h2, h3, h4⟩ | ⟨n, a', x', rfl, hx, h0, h4⟩); exact .inl ⟨_, rfl, n, a', rfl, h0, h1, h2, h3, h4⟩; exact .inr ⟨_, rfl, (hT251.trans (T1_bad2 h0 hx)), ⟨x', rfl⟩, hb_at hB277 h4 (by omega)⟩)) ?_; clear h267
  rintro _ w269 a268 ⟨n270, a271, rfl, hq272, hn273, hm274, ho275, hg276⟩ h268
  have hz286 := hg276.size
  have hl287 := ho275.lt
  refine pk0 (v := .int .i64 0) h268 rfl fun a288 h288 => ?_; clear h268
  refine pl_nil ?_
  refine co_then ?_
  refine wp_block ?_
  have h289 : Slots 60 [(2, pt N3 0), (3, pt N20 0), (5, pt N91 0), (35, .int .i64 n270), (36, .int .i64 0)] _ := h288.sub ⟨rfl, rfl, rfl, rfl, rfl, trivial⟩; clear h288
  refine co_loop (fun mm a x => ∃ (i : Nat) (u : Value) (ls : List OpT) (ps : Int) (er : Int), Slots 60 [(2, pt N3 0), (3, pt N20 0), (5, pt N91 0), (35, .int .i64 n270), (36, .int .i64 ((i : Nat) : Int))] a ∧ mm = n270.toNat - i ∧ (((i : Nat) : Int) ≤ n270) ∧ (ls.length = i) ∧ (sdN s i ([], a271, 0) = (ls, ps, er)) ∧ Blk x N91 60 #[.int .i64 n37, .int .i64 n59, .int .i64 n74, .int .i64 n164, .int .i64 n179, .string n226, .string n241, .int .u64 n211, .int .i64 n197, u] ∧ OR b12 s ps er x ∧ x.ownsRow (N91 + 1) 66 3 u ls.length (ls.flatMap opE) ∧ Below w.heap.size w x ∧ Blk x N3 60 #[.int .i64 0, .int .i64 0, .int .i64 0, .int .i64 0, .int .i64 0, .string (⟨#[]⟩), .string (⟨#[]⟩), .int .u64 0, .int .i64 0, .slice none 0 0] ∧ Blk x N20 161 #[pt b12 0]) (n270.toNat - 0) ?_ ?_
  have hk290 := hk258'.kept hg276 (by simp; omega)
  have hB291 := hb_at hB277 hg276 (by omega)
  have hk292 := hk283.kept hg276 (by simp; omega)
  have hk293 := hk284.kept hg276 (by simp; omega)
  · exact ⟨0, (.slice none 0 0), [], a271, 0, h289.sub ⟨rfl, rfl, rfl, rfl, (slot_eq rfl (congrArg (Value.int .i64) (by first | rfl | omega))), trivial⟩, rfl, by omega, by first | rfl | (simp; omega), by first | rfl | exact hR', hk290, ho275, (row_nilL _ _ _ _ _), hB291, hk292, hk293⟩
  · rintro k294 a295 w296 ⟨i, u, ls, ps, er, h295, rfl, hi297, hi298, hi299, hf300, hf301, hf302, hB303, hk304, hk305⟩
    have hz306 := hB303.size
    have hl307 := hk304.lt
    have hl308 := hk305.lt
    have hl309 := hf300.lt
    have hl310 := hf301.lt
    have hR : sdN s i ([], a271, 0) = (ls, ps, er) := by assumption
    refine co_seq ?_
    refine co_reg ?_
    refine pk0 (v := .bool (decide (((i : Nat) : Int) < n270))) h295 rfl fun a311 h311 => ?_; clear h295
    refine pl_nil ?_
    refine co_then ?_
    refine co_seq ?_
    cases hc312 : (decide (((i : Nat) : Int) < n270))
    ·
     rw [hc312] at h311
     have hp313 : ¬ (((i : Nat) : Int) < n270) := of_decide_eq_false hc312
     clear hc312
     refine co_false h311 rfl ?_
     refine wp_exit ?_
     refine co_thenX ?_
     refine co_thenX ?_
     refine co_blockX ?_
     refine co_then ?_
     refine co_seq ?_
     refine co_seq ?_
     refine co_reg ?_
     refine pk (v := pt b12 0) h311 rfl (rn_load1 rfl rfl Try.isAgg161 (hk305.cell rfl)) fun a314 h314 => ?_; clear h311
     refine pw h314 rfl (op_call (args := #[pt b12 0]) (R := fun res xw => ∃ r : Int, res = .int .i64 r ∧ endV s ps.toNat er = r ∧ Below w296.heap.size w296 xw) rfl rfl rfl (by kernel_rfl) (by kernel_rfl) (Try.call118 _ _) (or_end b12 s ps er w296 hf301 (by omega)) (by rintro e x ⟨r, rfl, h0, h2⟩; exact ⟨_, rfl, r, rfl, h0, h2⟩)) ?_; clear h314
     rintro _ w316 a315 ⟨r317, rfl, hq318, hb319⟩ h315
     have hz320 := hb319.size
     refine pk0 (v := .int .i64 r317) h315 rfl fun a321 h321 => ?_; clear h315
     refine pl_nil ?_
     refine co_then ?_
     refine co_seq ?_
     refine co_reg ?_
     refine pk0 (v := .int .i64 r317) h321 rfl fun a322 h322 => ?_; clear h321
     refine pk0 (v := .bool (r317 != 0)) h322 rfl fun a323 h323 => ?_; clear h322
     refine pl_nil ?_
     refine co_then ?_
     have hB325 := hb_call hB303 hb319
     cases hc324 : (r317 != 0)
     ·
      rw [hc324] at h323
      have hp326 : ¬ (r317 ≠ 0) := by first | simpa using hc324 | simpa [and_assoc] using hc324
      clear hc324
      refine co_false h323 rfl ?_
      refine wp_skip ?_
      refine co_then ?_
      refine co_seq ?_
      refine co_reg ?_
      have hk327 := hf300.below hb319
      refine pk (v := .agg #[.int .i64 n37, .int .i64 n59, .int .i64 n74, .int .i64 n164, .int .i64 n179, .string n226, .string n241, .int .u64 n211, .int .i64 n197, u]) h323 rfl (rn_loadN rfl rfl Try.underlying60 rfl (by kernel_rfl) hk327.all) fun a328 h328 => ?_; clear h323
      have hr334 := row_kept_new hf302 (below_grown hb319)
      have hk335 := hk304.below hb319
      refine pwD h328 rfl (op_storeN rfl rfl rfl (all_cons rfl (all_cons rfl (all_cons rfl (all_cons rfl (all_cons rfl (all_cons rfl (all_cons rfl (all_cons rfl (all_cons rfl (all_cons (row_one hr334) all_nil)))))))))) (by kernel_rfl) hk335 rfl) ?_; clear h328
      rintro _ w330 a329 ⟨hk331, hz332, hg333⟩ h329
      have hk331' : Blk w330 N3 60 #[.int .i64 n37, .int .i64 n59, .int .i64 n74, .int .i64 n164, .int .i64 n179, .string n226, .string n241, .int .u64 n211, .int .i64 n197, u] := hk331; clear hk331
      have hz336 := hg333.size
      refine pl_nil ?_
      refine co_then ?_
      refine wp_ret ?_
      refine co_retC (Q := fun _ _ _ => True) h329 rfl rfl hk331' Try.underlying60 rfl (by kernel_rfl) ?_
      have hr337 := row_kept_at hr334 hg333 (row_ne_lt hr334 (by omega))
      have hB338 := hb_at hB325 hg333 (by omega)
      exact .inl ⟨⟨n37, n59, n74, n164, n179, n226, n241, n211, n197, ls⟩, _, rfl, (row_lows hr337 (by omega)), hT251.trans ((T1_at hq272 hR (by omega)).trans (T0_y hq318 (by omega))), hB338⟩
     ·
      rw [hc324] at h323
      have hp339 : r317 ≠ 0 := by first | simpa using hc324 | simpa [and_assoc] using hc324
      clear hc324
      refine co_true h323 rfl ?_
      refine co_reg ?_
      refine pk0 (v := .int .i64 r317) h323 rfl fun a340 h340 => ?_; clear h323
      refine pk0 (v := .iface 44 (.int .i64 r317)) h340 rfl fun a341 h341 => ?_; clear h340
      refine pl_panic h341 rfl rfl (fun hd342 => ?_)
      repeat (first | refine co_thenP ?_ | refine co_blockP ?_)
      exact body_pan hd342 (.inr ⟨_, rfl, hT251.trans ((T1_at hq272 hR (by omega)).trans (T0_n hq318 (by omega))), ⟨_, rfl⟩, hB325⟩)
    ·
     rw [hc312] at h311
     have hp343 : ((i : Nat) : Int) < n270 := of_decide_eq_true hc312
     clear hc312
     refine co_true h311 rfl ?_
     refine wp_skip ?_
     refine co_then ?_
     refine co_seq ?_
     refine wp_block ?_
     refine p_dr_gen (X := fun l x => evR s = none ∧ (∃ k, l = [thrown k]) ∧ Below w.heap.size w x) (fun x => Below w.heap.size w x ∧ Blk x N20 161 #[pt b12 0]) (by intro l _ _ h hd; (repeat (first | refine co_thenP ?_ | refine co_blockP ?_)); exact body_pan hd (.inr ⟨l, rfl, h⟩)) (by kernel_rfl) (fun w344 hg345 => ?_) (fun w344 hg345 => ?_)
     ·
      have hz346 := hg345.size
      have hB347 := hb_new hB303 hg345
      have hk348 := hk305.kept hg345 (by simp)
      exact ⟨hB347, hk348⟩
     have hz349 := hg345.size
     have hB350 := hb_new hB303 hg345
     have hk351 := hk305.kept hg345 (by simp)
     refine p_dk0 0 (v := pt N91 3) h311 rfl rfl ⟨hB350, hk351⟩ fun a352 h352 => ?_; clear h311
     refine p_dk0 1 (v := pt N91 9) h352 rfl rfl ⟨hB350, hk351⟩ fun a353 h353 => ?_; clear h352
     refine p_dk 3 (v := pt b12 0) h353 rfl rfl ⟨hB350, hk351⟩ (fun x hx => (rn_load1 rfl rfl Try.isAgg161 (hx.2.cell rfl))) fun a354 h354 => ?_; clear h353
     refine p_dk 5 (v := pt b12 0) h354 rfl rfl ⟨hB350, hk351⟩ (fun x hx => (rn_load1 rfl rfl Try.isAgg161 (hx.2.cell rfl))) fun a355 h355 => ?_; clear h354
     refine p_dk 7 (v := pt b12 0) h355 rfl rfl ⟨hB350, hk351⟩ (fun x hx => (rn_load1 rfl rfl Try.isAgg161 (hx.2.cell rfl))) fun a356 h356 => ?_; clear h355
     refine p_dr_many [2, 4] (by kernel_rfl) (by simp) ⟨?_, ?_, trivial⟩
     ·
      have hk357 := hf300.kept hg345 (by simp)
      refine p_dr_opVal (i := 2) (v := u) h356 rfl rfl rfl rfl (by kernel_rfl) rfl (rn_load1 rfl rfl Try.isAgg24 (hk357.cell rfl)) ⟨hB350, hk351⟩ (fun a358 h358 => ?_); clear h356
      have ho369 := hf301.new hg345
      refine p_d1 4 h358 rfl rfl (op_call (args := #[pt b12 0, .int .i64 255]) (R := fun res xw => ∃ (n : ByteArray) (a' e' : Int), res = .string n ∧ textR s ps er 255 = (n, a', e') ∧ (n.size : Int) ≤ 255 ∧ OR b12 s a' e' xw ∧ w344.grownBy xw (some b12)) rfl rfl rfl (by kernel_rfl) (by kernel_rfl) (Try.call116 _ _) (or_text b12 s ps er 255 w344 ho369 (by omega) (by omega) (by omega)) (by rintro q x ⟨n, a', e', rfl, h0, k0, h1, h2⟩; exact ⟨_, rfl, n, a', e', rfl, h0, k0, h1, h2⟩)) ?_ ?_; clear h358
      ·
       rintro _ w360 ⟨n361, a362, e363, rfl, hq364, hn365, ho367, hg368⟩
       have hz370 := hg368.size
       have hl371 := ho367.lt
       have hB372 := hb_at hB350 hg368 (by omega)
       have hk373 := hk351.kept hg368 (by simp; omega)
       exact ⟨hB372, hk373⟩
      rintro _ w360 a359 ⟨n361, a362, e363, rfl, hq364, hn365, ho367, hg368⟩ h359
      have hz370 := hg368.size
      have hl371 := ho367.lt
      have hB372 := hb_at hB350 hg368 (by omega)
      have hk373 := hk351.kept hg368 (by simp; omega)
      refine p_d1 6 h359 rfl rfl (op_call (args := #[pt b12 0]) (R := fun res xw => ∃ (n : Bool) (a' e' : Int), res = .bool n ∧ flagR s a362.toNat e363 = (n, a', e') ∧ OR b12 s a' e' xw ∧ w360.grownBy xw (some b12)) rfl rfl rfl (by kernel_rfl) (by kernel_rfl) (Try.call117 _ _) (or_flag b12 s a362 e363 w360 ho367 (by omega)) (by rintro q x ⟨n, a', e', rfl, h0, h1, h2⟩; exact ⟨_, rfl, n, a', e', rfl, h0, h1, h2⟩)) ?_ ?_; clear h359
      ·
       rintro _ w375 ⟨n376, a377, e378, rfl, hq379, ho382, hg383⟩
       have hz384 := hg383.size
       have hl385 := ho382.lt
       have hB386 := hb_at hB372 hg383 (by omega)
       have hk387 := hk373.kept hg383 (by simp; omega)
       exact ⟨hB386, hk387⟩
      rintro _ w375 a374 ⟨n376, a377, e378, rfl, hq379, ho382, hg383⟩ h374
      have hz384 := hg383.size
      have hl385 := ho382.lt
      have hB386 := hb_at hB372 hg383 (by omega)
      have hk387 := hk373.kept hg383 (by simp; omega)
      refine p_d1 8 h374 rfl rfl (op_call (args := #[pt b12 0, .int .i64 255]) (R := fun res xw => ∃ (n : ByteArray) (a' e' : Int), res = .string n ∧ textR s a377 e378 255 = (n, a', e') ∧ (n.size : Int) ≤ 255 ∧ OR b12 s a' e' xw ∧ w375.grownBy xw (some b12)) rfl rfl rfl (by kernel_rfl) (by kernel_rfl) (Try.call116 _ _) (or_text b12 s a377 e378 255 w375 ho382 (by omega) (by omega) (by omega)) (by rintro q x ⟨n, a', e', rfl, h0, k0, h1, h2⟩; exact ⟨_, rfl, n, a', e', rfl, h0, k0, h1, h2⟩)) ?_ ?_; clear h374
      ·
       rintro _ w389 ⟨n390, a391, e392, rfl, hq393, hn394, ho396, hg397⟩
       have hz398 := hg397.size
       have hl399 := ho396.lt
       have hB400 := hb_at hB386 hg397 (by omega)
       have hk401 := hk387.kept hg397 (by simp; omega)
       exact ⟨hB400, hk401⟩
      rintro _ w389 a388 ⟨n390, a391, e392, rfl, hq393, hn394, ho396, hg397⟩ h388
      have hz398 := hg397.size
      have hl399 := ho396.lt
      have hB400 := hb_at hB386 hg397 (by omega)
      have hk401 := hk387.kept hg397 (by simp; omega)
      refine p_dk0 9 (v := .agg #[.string n361, .string n390, .bool n376]) h388 rfl rfl ⟨hB400, hk401⟩ fun a402 h402 => ?_; clear h388
      refine p_d1 10 h402 rfl rfl (op_new (v := fun N => .slice (some ⟨N, 0, none⟩) 1 1) (T := 66) (cs := #[.string n361, .string n390, .bool n376]) (by kernel_rfl) (by kernel_rfl) (by kernel_rfl)) ?_ ?_; clear h402
      ·
       rintro _ w404 ⟨N405, rfl, hN408, hz409, hk407, hg406⟩
       have hr411 := row_kept_new hf302 hg345
       have hr412 := row_kept_at hr411 hg368 (row_ne_lt hr411 (by omega))
       have hr413 := row_kept_at hr412 hg383 (row_ne_lt hr412 (by omega))
       have hr414 := row_kept_at hr413 hg397 (row_ne_lt hr413 (by omega))
       have ha410 := row_fresh hr414 hN408
       have hz415 := hg406.size
       have hB416 := hb_new hB400 hg406
       have hk417 := hk401.kept hg406 (by simp)
       exact ⟨hB416, hk417⟩
      rintro _ w404 a403 ⟨N405, rfl, hN408, hz409, hk407, hg406⟩ h403
      have hr411 := row_kept_new hf302 hg345
      have hr412 := row_kept_at hr411 hg368 (row_ne_lt hr411 (by omega))
      have hr413 := row_kept_at hr412 hg383 (row_ne_lt hr412 (by omega))
      have hr414 := row_kept_at hr413 hg397 (row_ne_lt hr413 (by omega))
      have ha410 := row_fresh hr414 hN408
      have hz415 := hg406.size
      try dsimp only at h403
      have hB416 := hb_new hB400 hg406
      have hk417 := hk401.kept hg406 (by simp)
      have hr424 := row_kept_new hr414 hg406
      refine p_d1 11 h403 rfl rfl (op_append rfl (N91 + 1) 66 (z := .agg #[.string (⟨#[]⟩), .string (⟨#[]⟩), .bool false]) (size := 3) (bytes := 40) Try.underlying24 (by kernel_rfl) rfl rfl rfl hr424 rfl hk407 rfl (by kernel_rfl) (by first | omega | (simp only [List.length_nil, List.length_append, List.length_cons, List.length_take, List.length_drop]; omega)) (by first | omega | (simp only [List.length_nil, List.length_append, List.length_cons, List.length_take, List.length_drop]; omega)) (by omega)) ?_ ?_; clear h403
      ·
       rintro v420 w419 ⟨hr421, hg422⟩
       have hr421' : w419.ownsRow (N91 + 1) 66 3 v420 ((ls ++ [(n361, n390, n376)]).length) ((ls ++ [(n361, n390, n376)]).flatMap opE) := row_push (y := (n361, n390, n376)) hr421 rfl rfl; clear hr421
       have hz425 := hg422.size
       have hB426 := hb_row hB416 hr424 (by omega) hg422
       have hk427 := hk417.kept hg422 (row_ne_lt hr424 (by omega))
       exact ⟨hB426, hk427⟩
      rintro v420 w419 a418 ⟨hr421, hg422⟩ h418
      have hr421' : w419.ownsRow (N91 + 1) 66 3 v420 ((ls ++ [(n361, n390, n376)]).length) ((ls ++ [(n361, n390, n376)]).flatMap opE) := row_push (y := (n361, n390, n376)) hr421 rfl rfl; clear hr421
      have hz425 := hg422.size
      have hB426 := hb_row hB416 hr424 (by omega) hg422
      have hk427 := hk417.kept hg422 (row_ne_lt hr424 (by omega))
      refine p_dk0 12 (v := pt N91 3) h418 rfl rfl ⟨hB426, hk427⟩ fun a428 h428 => ?_; clear h418
      refine p_dk0 13 (v := pt N91 9) h428 rfl rfl ⟨hB426, hk427⟩ fun a429 h429 => ?_; clear h428
      have hk435 := hk357.kept hg368 (by simp; omega)
      have hk436 := hk435.kept hg383 (by simp; omega)
      have hk437 := hk436.kept hg397 (by simp; omega)
      have hk438 := hk437.kept hg406 (by simp)
      have hk439 := hk438.kept hg422 (row_ne_lt hr424 (by omega))
      refine p_d1D 14 h429 rfl rfl (op_store1 rfl rfl rfl (row_one hr421') Try.sizeOf24 hk439 rfl) ?_ ?_; clear h429
      ·
       rintro _ w431 ⟨hk432, hz433, hg434⟩
       have hk432' : Blk w431 N91 60 #[.int .i64 n37, .int .i64 n59, .int .i64 n74, .int .i64 n164, .int .i64 n179, .string n226, .string n241, .int .u64 n211, .int .i64 n197, v420] := hk432; clear hk432
       have hz440 := hg434.size
       have hB441 := hb_at hB426 hg434 (by omega)
       have hk442 := hk427.kept hg434 (by simp; omega)
       exact ⟨hB441, hk442⟩
      rintro _ w431 a430 ⟨hk432, hz433, hg434⟩ h430
      have hk432' : Blk w431 N91 60 #[.int .i64 n37, .int .i64 n59, .int .i64 n74, .int .i64 n164, .int .i64 n179, .string n226, .string n241, .int .u64 n211, .int .i64 n197, v420] := hk432; clear hk432
      have hz440 := hg434.size
      refine p_dr_done (by kernel_rfl) ?_
      refine co_blockN ?_
      refine co_then ?_
      refine co_reg ?_
      refine pk (v := .int .i64 ((i + 1 : Nat) : Int)) h430 rfl (rn_arith' rfl rfl rfl rfl rfl rfl (IntWalk.i64_in _ (by omega)) (by omega)) fun a441 h441 => ?_; clear h430
      refine pk0 (v := .int .i64 ((i + 1 : Nat) : Int)) h441 rfl fun a442 h442 => ?_; clear h441
      refine pl_nil ?_
      refine co_then ?_
      refine ⟨(n270.toNat - (i + 1)), by omega, ?_⟩
      have hR' := sdN_step hR hq364 hq379 hq393
      have ho443 := ho396.new hg406
      have ho444 := ho443.row (row_ne_lt hr424 (by omega)) hg422
      have ho445 := ho444.at (by omega) hg434
      have hr446 := row_kept_at hr421' hg434 (row_ne_lt hr421' (by omega))
      have hB447 := hb_at hB426 hg434 (by omega)
      have hk448 := hk304.kept hg345 (by simp)
      have hk449 := hk448.kept hg368 (by simp; omega)
      have hk450 := hk449.kept hg383 (by simp; omega)
      have hk451 := hk450.kept hg397 (by simp; omega)
      have hk452 := hk451.kept hg406 (by simp)
      have hk453 := hk452.kept hg422 (row_ne_lt hr424 (by omega))
      have hk454 := hk453.kept hg434 (by simp; omega)
      have hk455 := hk427.kept hg434 (by simp; omega)
      exact ⟨i + 1, v420, ls ++ [(n361, n390, n376)], a391, e392, h442.sub ⟨rfl, rfl, rfl, rfl, rfl, trivial⟩, rfl, by omega, by first | rfl | (simp; omega), by first | rfl | exact hR', hk432', ho445, (row_eq hr446 (rfl)), hB447, hk454, hk455⟩
     ·
      have ho466 := hf301.new hg345
      refine p_dr_op (i := 4) h356 rfl rfl rfl rfl (op_call (args := #[pt b12 0, .int .i64 255]) (R := fun res xw => ∃ (n : ByteArray) (a' e' : Int), res = .string n ∧ textR s ps er 255 = (n, a', e') ∧ (n.size : Int) ≤ 255 ∧ OR b12 s a' e' xw ∧ w344.grownBy xw (some b12)) rfl rfl rfl (by kernel_rfl) (by kernel_rfl) (Try.call116 _ _) (or_text b12 s ps er 255 w344 ho466 (by omega) (by omega) (by omega)) (by rintro q x ⟨n, a', e', rfl, h0, k0, h1, h2⟩; exact ⟨_, rfl, n, a', e', rfl, h0, k0, h1, h2⟩)) ?_ ?_; clear h356
      ·
       rintro _ w457 ⟨n458, a459, e460, rfl, hq461, hn462, ho464, hg465⟩
       have hz467 := hg465.size
       have hl468 := ho464.lt
       have hB469 := hb_at hB350 hg465 (by omega)
       have hk470 := hk351.kept hg465 (by simp; omega)
       exact ⟨hB469, hk470⟩
      rintro _ w457 a456 ⟨n458, a459, e460, rfl, hq461, hn462, ho464, hg465⟩ h456
      have hz467 := hg465.size
      have hl468 := ho464.lt
      have hB469 := hb_at hB350 hg465 (by omega)
      have hk470 := hk351.kept hg465 (by simp; omega)
      refine p_dr_many [2, 6] (by kernel_rfl) (by simp) ⟨?_, ?_, trivial⟩
      ·
       have hk471 := hf300.kept hg345 (by simp)
       have hk472 := hk471.kept hg465 (by simp; omega)
       refine p_dr_opVal (i := 2) (v := u) h456 rfl rfl rfl rfl (by kernel_rfl) rfl (rn_load1 rfl rfl Try.isAgg24 (hk472.cell rfl)) ⟨hB469, hk470⟩ (fun a473 h473 => ?_); clear h456
       refine p_d1 6 h473 rfl rfl (op_call (args := #[pt b12 0]) (R := fun res xw => ∃ (n : Bool) (a' e' : Int), res = .bool n ∧ flagR s a459.toNat e460 = (n, a', e') ∧ OR b12 s a' e' xw ∧ w457.grownBy xw (some b12)) rfl rfl rfl (by kernel_rfl) (by kernel_rfl) (Try.call117 _ _) (or_flag b12 s a459 e460 w457 ho464 (by omega)) (by rintro q x ⟨n, a', e', rfl, h0, h1, h2⟩; exact ⟨_, rfl, n, a', e', rfl, h0, h1, h2⟩)) ?_ ?_; clear h473
       ·
        rintro _ w475 ⟨n476, a477, e478, rfl, hq479, ho482, hg483⟩
        have hz484 := hg483.size
        have hl485 := ho482.lt
        have hB486 := hb_at hB469 hg483 (by omega)
        have hk487 := hk470.kept hg483 (by simp; omega)
        exact ⟨hB486, hk487⟩
       rintro _ w475 a474 ⟨n476, a477, e478, rfl, hq479, ho482, hg483⟩ h474
       have hz484 := hg483.size
       have hl485 := ho482.lt
       have hB486 := hb_at hB469 hg483 (by omega)
       have hk487 := hk470.kept hg483 (by simp; omega)
       refine p_d1 8 h474 rfl rfl (op_call (args := #[pt b12 0, .int .i64 255]) (R := fun res xw => ∃ (n : ByteArray) (a' e' : Int), res = .string n ∧ textR s a477 e478 255 = (n, a', e') ∧ (n.size : Int) ≤ 255 ∧ OR b12 s a' e' xw ∧ w475.grownBy xw (some b12)) rfl rfl rfl (by kernel_rfl) (by kernel_rfl) (Try.call116 _ _) (or_text b12 s a477 e478 255 w475 ho482 (by omega) (by omega) (by omega)) (by rintro q x ⟨n, a', e', rfl, h0, k0, h1, h2⟩; exact ⟨_, rfl, n, a', e', rfl, h0, k0, h1, h2⟩)) ?_ ?_; clear h474
       ·
        rintro _ w489 ⟨n490, a491, e492, rfl, hq493, hn494, ho496, hg497⟩
        have hz498 := hg497.size
        have hl499 := ho496.lt
        have hB500 := hb_at hB486 hg497 (by omega)
        have hk501 := hk487.kept hg497 (by simp; omega)
        exact ⟨hB500, hk501⟩
       rintro _ w489 a488 ⟨n490, a491, e492, rfl, hq493, hn494, ho496, hg497⟩ h488
       have hz498 := hg497.size
       have hl499 := ho496.lt
       have hB500 := hb_at hB486 hg497 (by omega)
       have hk501 := hk487.kept hg497 (by simp; omega)
       refine p_dk0 9 (v := .agg #[.string n458, .string n490, .bool n476]) h488 rfl rfl ⟨hB500, hk501⟩ fun a502 h502 => ?_; clear h488
       refine p_d1 10 h502 rfl rfl (op_new (v := fun N => .slice (some ⟨N, 0, none⟩) 1 1) (T := 66) (cs := #[.string n458, .string n490, .bool n476]) (by kernel_rfl) (by kernel_rfl) (by kernel_rfl)) ?_ ?_; clear h502
       ·
        rintro _ w504 ⟨N505, rfl, hN508, hz509, hk507, hg506⟩
        have hr511 := row_kept_new hf302 hg345
        have hr512 := row_kept_at hr511 hg465 (row_ne_lt hr511 (by omega))
        have hr513 := row_kept_at hr512 hg483 (row_ne_lt hr512 (by omega))
        have hr514 := row_kept_at hr513 hg497 (row_ne_lt hr513 (by omega))
        have ha510 := row_fresh hr514 hN508
        have hz515 := hg506.size
        have hB516 := hb_new hB500 hg506
        have hk517 := hk501.kept hg506 (by simp)
        exact ⟨hB516, hk517⟩
       rintro _ w504 a503 ⟨N505, rfl, hN508, hz509, hk507, hg506⟩ h503
       have hr511 := row_kept_new hf302 hg345
       have hr512 := row_kept_at hr511 hg465 (row_ne_lt hr511 (by omega))
       have hr513 := row_kept_at hr512 hg483 (row_ne_lt hr512 (by omega))
       have hr514 := row_kept_at hr513 hg497 (row_ne_lt hr513 (by omega))
       have ha510 := row_fresh hr514 hN508
       have hz515 := hg506.size
       try dsimp only at h503
       have hB516 := hb_new hB500 hg506
       have hk517 := hk501.kept hg506 (by simp)
       have hr524 := row_kept_new hr514 hg506
       refine p_d1 11 h503 rfl rfl (op_append rfl (N91 + 1) 66 (z := .agg #[.string (⟨#[]⟩), .string (⟨#[]⟩), .bool false]) (size := 3) (bytes := 40) Try.underlying24 (by kernel_rfl) rfl rfl rfl hr524 rfl hk507 rfl (by kernel_rfl) (by first | omega | (simp only [List.length_nil, List.length_append, List.length_cons, List.length_take, List.length_drop]; omega)) (by first | omega | (simp only [List.length_nil, List.length_append, List.length_cons, List.length_take, List.length_drop]; omega)) (by omega)) ?_ ?_; clear h503
       ·
        rintro v520 w519 ⟨hr521, hg522⟩
        have hr521' : w519.ownsRow (N91 + 1) 66 3 v520 ((ls ++ [(n458, n490, n476)]).length) ((ls ++ [(n458, n490, n476)]).flatMap opE) := row_push (y := (n458, n490, n476)) hr521 rfl rfl; clear hr521
        have hz525 := hg522.size
        have hB526 := hb_row hB516 hr524 (by omega) hg522
        have hk527 := hk517.kept hg522 (row_ne_lt hr524 (by omega))
        exact ⟨hB526, hk527⟩
       rintro v520 w519 a518 ⟨hr521, hg522⟩ h518
       have hr521' : w519.ownsRow (N91 + 1) 66 3 v520 ((ls ++ [(n458, n490, n476)]).length) ((ls ++ [(n458, n490, n476)]).flatMap opE) := row_push (y := (n458, n490, n476)) hr521 rfl rfl; clear hr521
       have hz525 := hg522.size
       have hB526 := hb_row hB516 hr524 (by omega) hg522
       have hk527 := hk517.kept hg522 (row_ne_lt hr524 (by omega))
       refine p_dk0 12 (v := pt N91 3) h518 rfl rfl ⟨hB526, hk527⟩ fun a528 h528 => ?_; clear h518
       refine p_dk0 13 (v := pt N91 9) h528 rfl rfl ⟨hB526, hk527⟩ fun a529 h529 => ?_; clear h528
       have hk535 := hk472.kept hg483 (by simp; omega)
       have hk536 := hk535.kept hg497 (by simp; omega)
       have hk537 := hk536.kept hg506 (by simp)
       have hk538 := hk537.kept hg522 (row_ne_lt hr524 (by omega))
       refine p_d1D 14 h529 rfl rfl (op_store1 rfl rfl rfl (row_one hr521') Try.sizeOf24 hk538 rfl) ?_ ?_; clear h529
       ·
        rintro _ w531 ⟨hk532, hz533, hg534⟩
        have hk532' : Blk w531 N91 60 #[.int .i64 n37, .int .i64 n59, .int .i64 n74, .int .i64 n164, .int .i64 n179, .string n226, .string n241, .int .u64 n211, .int .i64 n197, v520] := hk532; clear hk532
        have hz539 := hg534.size
        have hB540 := hb_at hB526 hg534 (by omega)
        have hk541 := hk527.kept hg534 (by simp; omega)
        exact ⟨hB540, hk541⟩
       rintro _ w531 a530 ⟨hk532, hz533, hg534⟩ h530
       have hk532' : Blk w531 N91 60 #[.int .i64 n37, .int .i64 n59, .int .i64 n74, .int .i64 n164, .int .i64 n179, .string n226, .string n241, .int .u64 n211, .int .i64 n197, v520] := hk532; clear hk532
       have hz539 := hg534.size
       refine p_dr_done (by kernel_rfl) ?_
       refine co_blockN ?_
       refine co_then ?_
       refine co_reg ?_
       refine pk (v := .int .i64 ((i + 1 : Nat) : Int)) h530 rfl (rn_arith' rfl rfl rfl rfl rfl rfl (IntWalk.i64_in _ (by omega)) (by omega)) fun a540 h540 => ?_; clear h530
       refine pk0 (v := .int .i64 ((i + 1 : Nat) : Int)) h540 rfl fun a541 h541 => ?_; clear h540
       refine pl_nil ?_
       refine co_then ?_
       refine ⟨(n270.toNat - (i + 1)), by omega, ?_⟩
       have hR' := sdN_step hR hq461 hq479 hq493
       have ho542 := ho496.new hg506
       have ho543 := ho542.row (row_ne_lt hr524 (by omega)) hg522
       have ho544 := ho543.at (by omega) hg534
       have hr545 := row_kept_at hr521' hg534 (row_ne_lt hr521' (by omega))
       have hB546 := hb_at hB526 hg534 (by omega)
       have hk547 := hk304.kept hg345 (by simp)
       have hk548 := hk547.kept hg465 (by simp; omega)
       have hk549 := hk548.kept hg483 (by simp; omega)
       have hk550 := hk549.kept hg497 (by simp; omega)
       have hk551 := hk550.kept hg506 (by simp)
       have hk552 := hk551.kept hg522 (row_ne_lt hr524 (by omega))
       have hk553 := hk552.kept hg534 (by simp; omega)
       have hk554 := hk527.kept hg534 (by simp; omega)
       exact ⟨i + 1, v520, ls ++ [(n458, n490, n476)], a491, e492, h541.sub ⟨rfl, rfl, rfl, rfl, rfl, trivial⟩, rfl, by omega, by first | rfl | (simp; omega), by first | rfl | exact hR', hk532', ho544, (row_eq hr545 (rfl)), hB546, hk553, hk554⟩
      ·
       refine p_dr_op (i := 6) h456 rfl rfl rfl rfl (op_call (args := #[pt b12 0]) (R := fun res xw => ∃ (n : Bool) (a' e' : Int), res = .bool n ∧ flagR s a459.toNat e460 = (n, a', e') ∧ OR b12 s a' e' xw ∧ w457.grownBy xw (some b12)) rfl rfl rfl (by kernel_rfl) (by kernel_rfl) (Try.call117 _ _) (or_flag b12 s a459 e460 w457 ho464 (by omega)) (by rintro q x ⟨n, a', e', rfl, h0, h1, h2⟩; exact ⟨_, rfl, n, a', e', rfl, h0, h1, h2⟩)) ?_ ?_; clear h456
       ·
        rintro _ w556 ⟨n557, a558, e559, rfl, hq560, ho563, hg564⟩
        have hz565 := hg564.size
        have hl566 := ho563.lt
        have hB567 := hb_at hB469 hg564 (by omega)
        have hk568 := hk470.kept hg564 (by simp; omega)
        exact ⟨hB567, hk568⟩
       rintro _ w556 a555 ⟨n557, a558, e559, rfl, hq560, ho563, hg564⟩ h555
       have hz565 := hg564.size
       have hl566 := ho563.lt
       have hB567 := hb_at hB469 hg564 (by omega)
       have hk568 := hk470.kept hg564 (by simp; omega)
       refine p_dr_many [2, 8] (by kernel_rfl) (by simp) ⟨?_, ?_, trivial⟩
       ·
        have hk569 := hf300.kept hg345 (by simp)
        have hk570 := hk569.kept hg465 (by simp; omega)
        have hk571 := hk570.kept hg564 (by simp; omega)
        refine p_dr_opVal (i := 2) (v := u) h555 rfl rfl rfl rfl (by kernel_rfl) rfl (rn_load1 rfl rfl Try.isAgg24 (hk571.cell rfl)) ⟨hB567, hk568⟩ (fun a572 h572 => ?_); clear h555
        refine p_d1 8 h572 rfl rfl (op_call (args := #[pt b12 0, .int .i64 255]) (R := fun res xw => ∃ (n : ByteArray) (a' e' : Int), res = .string n ∧ textR s a558 e559 255 = (n, a', e') ∧ (n.size : Int) ≤ 255 ∧ OR b12 s a' e' xw ∧ w556.grownBy xw (some b12)) rfl rfl rfl (by kernel_rfl) (by kernel_rfl) (Try.call116 _ _) (or_text b12 s a558 e559 255 w556 ho563 (by omega) (by omega) (by omega)) (by rintro q x ⟨n, a', e', rfl, h0, k0, h1, h2⟩; exact ⟨_, rfl, n, a', e', rfl, h0, k0, h1, h2⟩)) ?_ ?_; clear h572
        ·
         rintro _ w574 ⟨n575, a576, e577, rfl, hq578, hn579, ho581, hg582⟩
         have hz583 := hg582.size
         have hl584 := ho581.lt
         have hB585 := hb_at hB567 hg582 (by omega)
         have hk586 := hk568.kept hg582 (by simp; omega)
         exact ⟨hB585, hk586⟩
        rintro _ w574 a573 ⟨n575, a576, e577, rfl, hq578, hn579, ho581, hg582⟩ h573
        have hz583 := hg582.size
        have hl584 := ho581.lt
        have hB585 := hb_at hB567 hg582 (by omega)
        have hk586 := hk568.kept hg582 (by simp; omega)
        refine p_dk0 9 (v := .agg #[.string n458, .string n575, .bool n557]) h573 rfl rfl ⟨hB585, hk586⟩ fun a587 h587 => ?_; clear h573
        refine p_d1 10 h587 rfl rfl (op_new (v := fun N => .slice (some ⟨N, 0, none⟩) 1 1) (T := 66) (cs := #[.string n458, .string n575, .bool n557]) (by kernel_rfl) (by kernel_rfl) (by kernel_rfl)) ?_ ?_; clear h587
        ·
         rintro _ w589 ⟨N590, rfl, hN593, hz594, hk592, hg591⟩
         have hr596 := row_kept_new hf302 hg345
         have hr597 := row_kept_at hr596 hg465 (row_ne_lt hr596 (by omega))
         have hr598 := row_kept_at hr597 hg564 (row_ne_lt hr597 (by omega))
         have hr599 := row_kept_at hr598 hg582 (row_ne_lt hr598 (by omega))
         have ha595 := row_fresh hr599 hN593
         have hz600 := hg591.size
         have hB601 := hb_new hB585 hg591
         have hk602 := hk586.kept hg591 (by simp)
         exact ⟨hB601, hk602⟩
        rintro _ w589 a588 ⟨N590, rfl, hN593, hz594, hk592, hg591⟩ h588
        have hr596 := row_kept_new hf302 hg345
        have hr597 := row_kept_at hr596 hg465 (row_ne_lt hr596 (by omega))
        have hr598 := row_kept_at hr597 hg564 (row_ne_lt hr597 (by omega))
        have hr599 := row_kept_at hr598 hg582 (row_ne_lt hr598 (by omega))
        have ha595 := row_fresh hr599 hN593
        have hz600 := hg591.size
        try dsimp only at h588
        have hB601 := hb_new hB585 hg591
        have hk602 := hk586.kept hg591 (by simp)
        have hr609 := row_kept_new hr599 hg591
        refine p_d1 11 h588 rfl rfl (op_append rfl (N91 + 1) 66 (z := .agg #[.string (⟨#[]⟩), .string (⟨#[]⟩), .bool false]) (size := 3) (bytes := 40) Try.underlying24 (by kernel_rfl) rfl rfl rfl hr609 rfl hk592 rfl (by kernel_rfl) (by first | omega | (simp only [List.length_nil, List.length_append, List.length_cons, List.length_take, List.length_drop]; omega)) (by first | omega | (simp only [List.length_nil, List.length_append, List.length_cons, List.length_take, List.length_drop]; omega)) (by omega)) ?_ ?_; clear h588
        ·
         rintro v605 w604 ⟨hr606, hg607⟩
         have hr606' : w604.ownsRow (N91 + 1) 66 3 v605 ((ls ++ [(n458, n575, n557)]).length) ((ls ++ [(n458, n575, n557)]).flatMap opE) := row_push (y := (n458, n575, n557)) hr606 rfl rfl; clear hr606
         have hz610 := hg607.size
         have hB611 := hb_row hB601 hr609 (by omega) hg607
         have hk612 := hk602.kept hg607 (row_ne_lt hr609 (by omega))
         exact ⟨hB611, hk612⟩
        rintro v605 w604 a603 ⟨hr606, hg607⟩ h603
        have hr606' : w604.ownsRow (N91 + 1) 66 3 v605 ((ls ++ [(n458, n575, n557)]).length) ((ls ++ [(n458, n575, n557)]).flatMap opE) := row_push (y := (n458, n575, n557)) hr606 rfl rfl; clear hr606
        have hz610 := hg607.size
        have hB611 := hb_row hB601 hr609 (by omega) hg607
        have hk612 := hk602.kept hg607 (row_ne_lt hr609 (by omega))
        refine p_dk0 12 (v := pt N91 3) h603 rfl rfl ⟨hB611, hk612⟩ fun a613 h613 => ?_; clear h603
        refine p_dk0 13 (v := pt N91 9) h613 rfl rfl ⟨hB611, hk612⟩ fun a614 h614 => ?_; clear h613
        have hk620 := hk571.kept hg582 (by simp; omega)
        have hk621 := hk620.kept hg591 (by simp)
        have hk622 := hk621.kept hg607 (row_ne_lt hr609 (by omega))
        refine p_d1D 14 h614 rfl rfl (op_store1 rfl rfl rfl (row_one hr606') Try.sizeOf24 hk622 rfl) ?_ ?_; clear h614
        ·
         rintro _ w616 ⟨hk617, hz618, hg619⟩
         have hk617' : Blk w616 N91 60 #[.int .i64 n37, .int .i64 n59, .int .i64 n74, .int .i64 n164, .int .i64 n179, .string n226, .string n241, .int .u64 n211, .int .i64 n197, v605] := hk617; clear hk617
         have hz623 := hg619.size
         have hB624 := hb_at hB611 hg619 (by omega)
         have hk625 := hk612.kept hg619 (by simp; omega)
         exact ⟨hB624, hk625⟩
        rintro _ w616 a615 ⟨hk617, hz618, hg619⟩ h615
        have hk617' : Blk w616 N91 60 #[.int .i64 n37, .int .i64 n59, .int .i64 n74, .int .i64 n164, .int .i64 n179, .string n226, .string n241, .int .u64 n211, .int .i64 n197, v605] := hk617; clear hk617
        have hz623 := hg619.size
        refine p_dr_done (by kernel_rfl) ?_
        refine co_blockN ?_
        refine co_then ?_
        refine co_reg ?_
        refine pk (v := .int .i64 ((i + 1 : Nat) : Int)) h615 rfl (rn_arith' rfl rfl rfl rfl rfl rfl (IntWalk.i64_in _ (by omega)) (by omega)) fun a624 h624 => ?_; clear h615
        refine pk0 (v := .int .i64 ((i + 1 : Nat) : Int)) h624 rfl fun a625 h625 => ?_; clear h624
        refine pl_nil ?_
        refine co_then ?_
        refine ⟨(n270.toNat - (i + 1)), by omega, ?_⟩
        have hR' := sdN_step hR hq461 hq560 hq578
        have ho626 := ho581.new hg591
        have ho627 := ho626.row (row_ne_lt hr609 (by omega)) hg607
        have ho628 := ho627.at (by omega) hg619
        have hr629 := row_kept_at hr606' hg619 (row_ne_lt hr606' (by omega))
        have hB630 := hb_at hB611 hg619 (by omega)
        have hk631 := hk304.kept hg345 (by simp)
        have hk632 := hk631.kept hg465 (by simp; omega)
        have hk633 := hk632.kept hg564 (by simp; omega)
        have hk634 := hk633.kept hg582 (by simp; omega)
        have hk635 := hk634.kept hg591 (by simp)
        have hk636 := hk635.kept hg607 (row_ne_lt hr609 (by omega))
        have hk637 := hk636.kept hg619 (by simp; omega)
        have hk638 := hk612.kept hg619 (by simp; omega)
        exact ⟨i + 1, v605, ls ++ [(n458, n575, n557)], a576, e577, h625.sub ⟨rfl, rfl, rfl, rfl, rfl, trivial⟩, rfl, by omega, by first | rfl | (simp; omega), by first | rfl | exact hR', hk617', ho628, (row_eq hr629 (rfl)), hB630, hk637, hk638⟩
       ·
        refine p_dr_op (i := 8) h555 rfl rfl rfl rfl (op_call (args := #[pt b12 0, .int .i64 255]) (R := fun res xw => ∃ (n : ByteArray) (a' e' : Int), res = .string n ∧ textR s a558 e559 255 = (n, a', e') ∧ (n.size : Int) ≤ 255 ∧ OR b12 s a' e' xw ∧ w556.grownBy xw (some b12)) rfl rfl rfl (by kernel_rfl) (by kernel_rfl) (Try.call116 _ _) (or_text b12 s a558 e559 255 w556 ho563 (by omega) (by omega) (by omega)) (by rintro q x ⟨n, a', e', rfl, h0, k0, h1, h2⟩; exact ⟨_, rfl, n, a', e', rfl, h0, k0, h1, h2⟩)) ?_ ?_; clear h555
        ·
         rintro _ w640 ⟨n641, a642, e643, rfl, hq644, hn645, ho647, hg648⟩
         have hz649 := hg648.size
         have hl650 := ho647.lt
         have hB651 := hb_at hB567 hg648 (by omega)
         have hk652 := hk568.kept hg648 (by simp; omega)
         exact ⟨hB651, hk652⟩
        rintro _ w640 a639 ⟨n641, a642, e643, rfl, hq644, hn645, ho647, hg648⟩ h639
        have hz649 := hg648.size
        have hl650 := ho647.lt
        have hB651 := hb_at hB567 hg648 (by omega)
        have hk652 := hk568.kept hg648 (by simp; omega)
        refine p_dk0 9 (v := .agg #[.string n458, .string n641, .bool n557]) h639 rfl rfl ⟨hB651, hk652⟩ fun a653 h653 => ?_; clear h639
        refine p_dr_many [2, 10] (by kernel_rfl) (by simp) ⟨?_, ?_, trivial⟩
        ·
         have hk654 := hf300.kept hg345 (by simp)
         have hk655 := hk654.kept hg465 (by simp; omega)
         have hk656 := hk655.kept hg564 (by simp; omega)
         have hk657 := hk656.kept hg648 (by simp; omega)
         refine p_dr_opVal (i := 2) (v := u) h653 rfl rfl rfl rfl (by kernel_rfl) rfl (rn_load1 rfl rfl Try.isAgg24 (hk657.cell rfl)) ⟨hB651, hk652⟩ (fun a658 h658 => ?_); clear h653
         refine p_d1 10 h658 rfl rfl (op_new (v := fun N => .slice (some ⟨N, 0, none⟩) 1 1) (T := 66) (cs := #[.string n458, .string n641, .bool n557]) (by kernel_rfl) (by kernel_rfl) (by kernel_rfl)) ?_ ?_; clear h658
         ·
          rintro _ w660 ⟨N661, rfl, hN664, hz665, hk663, hg662⟩
          have hr667 := row_kept_new hf302 hg345
          have hr668 := row_kept_at hr667 hg465 (row_ne_lt hr667 (by omega))
          have hr669 := row_kept_at hr668 hg564 (row_ne_lt hr668 (by omega))
          have hr670 := row_kept_at hr669 hg648 (row_ne_lt hr669 (by omega))
          have ha666 := row_fresh hr670 hN664
          have hz671 := hg662.size
          have hB672 := hb_new hB651 hg662
          have hk673 := hk652.kept hg662 (by simp)
          exact ⟨hB672, hk673⟩
         rintro _ w660 a659 ⟨N661, rfl, hN664, hz665, hk663, hg662⟩ h659
         have hr667 := row_kept_new hf302 hg345
         have hr668 := row_kept_at hr667 hg465 (row_ne_lt hr667 (by omega))
         have hr669 := row_kept_at hr668 hg564 (row_ne_lt hr668 (by omega))
         have hr670 := row_kept_at hr669 hg648 (row_ne_lt hr669 (by omega))
         have ha666 := row_fresh hr670 hN664
         have hz671 := hg662.size
         try dsimp only at h659
         have hB672 := hb_new hB651 hg662
         have hk673 := hk652.kept hg662 (by simp)
         have hr680 := row_kept_new hr670 hg662
         refine p_d1 11 h659 rfl rfl (op_append rfl (N91 + 1) 66 (z := .agg #[.string (⟨#[]⟩), .string (⟨#[]⟩), .bool false]) (size := 3) (bytes := 40) Try.underlying24 (by kernel_rfl) rfl rfl rfl hr680 rfl hk663 rfl (by kernel_rfl) (by first | omega | (simp only [List.length_nil, List.length_append, List.length_cons, List.length_take, List.length_drop]; omega)) (by first | omega | (simp only [List.length_nil, List.length_append, List.length_cons, List.length_take, List.length_drop]; omega)) (by omega)) ?_ ?_; clear h659
         ·
          rintro v676 w675 ⟨hr677, hg678⟩
          have hr677' : w675.ownsRow (N91 + 1) 66 3 v676 ((ls ++ [(n458, n641, n557)]).length) ((ls ++ [(n458, n641, n557)]).flatMap opE) := row_push (y := (n458, n641, n557)) hr677 rfl rfl; clear hr677
          have hz681 := hg678.size
          have hB682 := hb_row hB672 hr680 (by omega) hg678
          have hk683 := hk673.kept hg678 (row_ne_lt hr680 (by omega))
          exact ⟨hB682, hk683⟩
         rintro v676 w675 a674 ⟨hr677, hg678⟩ h674
         have hr677' : w675.ownsRow (N91 + 1) 66 3 v676 ((ls ++ [(n458, n641, n557)]).length) ((ls ++ [(n458, n641, n557)]).flatMap opE) := row_push (y := (n458, n641, n557)) hr677 rfl rfl; clear hr677
         have hz681 := hg678.size
         have hB682 := hb_row hB672 hr680 (by omega) hg678
         have hk683 := hk673.kept hg678 (row_ne_lt hr680 (by omega))
         refine p_dk0 12 (v := pt N91 3) h674 rfl rfl ⟨hB682, hk683⟩ fun a684 h684 => ?_; clear h674
         refine p_dk0 13 (v := pt N91 9) h684 rfl rfl ⟨hB682, hk683⟩ fun a685 h685 => ?_; clear h684
         have hk691 := hk657.kept hg662 (by simp)
         have hk692 := hk691.kept hg678 (row_ne_lt hr680 (by omega))
         refine p_d1D 14 h685 rfl rfl (op_store1 rfl rfl rfl (row_one hr677') Try.sizeOf24 hk692 rfl) ?_ ?_; clear h685
         ·
          rintro _ w687 ⟨hk688, hz689, hg690⟩
          have hk688' : Blk w687 N91 60 #[.int .i64 n37, .int .i64 n59, .int .i64 n74, .int .i64 n164, .int .i64 n179, .string n226, .string n241, .int .u64 n211, .int .i64 n197, v676] := hk688; clear hk688
          have hz693 := hg690.size
          have hB694 := hb_at hB682 hg690 (by omega)
          have hk695 := hk683.kept hg690 (by simp; omega)
          exact ⟨hB694, hk695⟩
         rintro _ w687 a686 ⟨hk688, hz689, hg690⟩ h686
         have hk688' : Blk w687 N91 60 #[.int .i64 n37, .int .i64 n59, .int .i64 n74, .int .i64 n164, .int .i64 n179, .string n226, .string n241, .int .u64 n211, .int .i64 n197, v676] := hk688; clear hk688
         have hz693 := hg690.size
         refine p_dr_done (by kernel_rfl) ?_
         refine co_blockN ?_
         refine co_then ?_
         refine co_reg ?_
         refine pk (v := .int .i64 ((i + 1 : Nat) : Int)) h686 rfl (rn_arith' rfl rfl rfl rfl rfl rfl (IntWalk.i64_in _ (by omega)) (by omega)) fun a694 h694 => ?_; clear h686
         refine pk0 (v := .int .i64 ((i + 1 : Nat) : Int)) h694 rfl fun a695 h695 => ?_; clear h694
         refine pl_nil ?_
         refine co_then ?_
         refine ⟨(n270.toNat - (i + 1)), by omega, ?_⟩
         have hR' := sdN_step hR hq461 hq560 hq644
         have ho696 := ho647.new hg662
         have ho697 := ho696.row (row_ne_lt hr680 (by omega)) hg678
         have ho698 := ho697.at (by omega) hg690
         have hr699 := row_kept_at hr677' hg690 (row_ne_lt hr677' (by omega))
         have hB700 := hb_at hB682 hg690 (by omega)
         have hk701 := hk304.kept hg345 (by simp)
         have hk702 := hk701.kept hg465 (by simp; omega)
         have hk703 := hk702.kept hg564 (by simp; omega)
         have hk704 := hk703.kept hg648 (by simp; omega)
         have hk705 := hk704.kept hg662 (by simp)
         have hk706 := hk705.kept hg678 (row_ne_lt hr680 (by omega))
         have hk707 := hk706.kept hg690 (by simp; omega)
         have hk708 := hk683.kept hg690 (by simp; omega)
         exact ⟨i + 1, v676, ls ++ [(n458, n641, n557)], a642, e643, h695.sub ⟨rfl, rfl, rfl, rfl, rfl, trivial⟩, rfl, by omega, by first | rfl | (simp; omega), by first | rfl | exact hR', hk688', ho698, (row_eq hr699 (rfl)), hB700, hk707, hk708⟩
        ·
         refine p_dr_op (i := 10) h653 rfl rfl rfl rfl (op_new (v := fun N => .slice (some ⟨N, 0, none⟩) 1 1) (T := 66) (cs := #[.string n458, .string n641, .bool n557]) (by kernel_rfl) (by kernel_rfl) (by kernel_rfl)) ?_ ?_; clear h653
         ·
          rintro _ w710 ⟨N711, rfl, hN714, hz715, hk713, hg712⟩
          have hr717 := row_kept_new hf302 hg345
          have hr718 := row_kept_at hr717 hg465 (row_ne_lt hr717 (by omega))
          have hr719 := row_kept_at hr718 hg564 (row_ne_lt hr718 (by omega))
          have hr720 := row_kept_at hr719 hg648 (row_ne_lt hr719 (by omega))
          have ha716 := row_fresh hr720 hN714
          have hz721 := hg712.size
          have hB722 := hb_new hB651 hg712
          have hk723 := hk652.kept hg712 (by simp)
          exact ⟨hB722, hk723⟩
         rintro _ w710 a709 ⟨N711, rfl, hN714, hz715, hk713, hg712⟩ h709
         have hr717 := row_kept_new hf302 hg345
         have hr718 := row_kept_at hr717 hg465 (row_ne_lt hr717 (by omega))
         have hr719 := row_kept_at hr718 hg564 (row_ne_lt hr718 (by omega))
         have hr720 := row_kept_at hr719 hg648 (row_ne_lt hr719 (by omega))
         have ha716 := row_fresh hr720 hN714
         have hz721 := hg712.size
         try dsimp only at h709
         have hB722 := hb_new hB651 hg712
         have hk723 := hk652.kept hg712 (by simp)
         refine p_dr_many [2] (by kernel_rfl) (by simp) ⟨?_, trivial⟩
         ·
          have hk724 := hf300.kept hg345 (by simp)
          have hk725 := hk724.kept hg465 (by simp; omega)
          have hk726 := hk725.kept hg564 (by simp; omega)
          have hk727 := hk726.kept hg648 (by simp; omega)
          have hk728 := hk727.kept hg712 (by simp)
          refine p_dr_opVal (i := 2) (v := u) h709 rfl rfl rfl rfl (by kernel_rfl) rfl (rn_load1 rfl rfl Try.isAgg24 (hk728.cell rfl)) ⟨hB722, hk723⟩ (fun a729 h729 => ?_); clear h709
          have hr736 := row_kept_new hr720 hg712
          refine p_d1 11 h729 rfl rfl (op_append rfl (N91 + 1) 66 (z := .agg #[.string (⟨#[]⟩), .string (⟨#[]⟩), .bool false]) (size := 3) (bytes := 40) Try.underlying24 (by kernel_rfl) rfl rfl rfl hr736 rfl hk713 rfl (by kernel_rfl) (by first | omega | (simp only [List.length_nil, List.length_append, List.length_cons, List.length_take, List.length_drop]; omega)) (by first | omega | (simp only [List.length_nil, List.length_append, List.length_cons, List.length_take, List.length_drop]; omega)) (by omega)) ?_ ?_; clear h729
          ·
           rintro v732 w731 ⟨hr733, hg734⟩
           have hr733' : w731.ownsRow (N91 + 1) 66 3 v732 ((ls ++ [(n458, n641, n557)]).length) ((ls ++ [(n458, n641, n557)]).flatMap opE) := row_push (y := (n458, n641, n557)) hr733 rfl rfl; clear hr733
           have hz737 := hg734.size
           have hB738 := hb_row hB722 hr736 (by omega) hg734
           have hk739 := hk723.kept hg734 (row_ne_lt hr736 (by omega))
           exact ⟨hB738, hk739⟩
          rintro v732 w731 a730 ⟨hr733, hg734⟩ h730
          have hr733' : w731.ownsRow (N91 + 1) 66 3 v732 ((ls ++ [(n458, n641, n557)]).length) ((ls ++ [(n458, n641, n557)]).flatMap opE) := row_push (y := (n458, n641, n557)) hr733 rfl rfl; clear hr733
          have hz737 := hg734.size
          have hB738 := hb_row hB722 hr736 (by omega) hg734
          have hk739 := hk723.kept hg734 (row_ne_lt hr736 (by omega))
          refine p_dk0 12 (v := pt N91 3) h730 rfl rfl ⟨hB738, hk739⟩ fun a740 h740 => ?_; clear h730
          refine p_dk0 13 (v := pt N91 9) h740 rfl rfl ⟨hB738, hk739⟩ fun a741 h741 => ?_; clear h740
          have hk747 := hk728.kept hg734 (row_ne_lt hr736 (by omega))
          refine p_d1D 14 h741 rfl rfl (op_store1 rfl rfl rfl (row_one hr733') Try.sizeOf24 hk747 rfl) ?_ ?_; clear h741
          ·
           rintro _ w743 ⟨hk744, hz745, hg746⟩
           have hk744' : Blk w743 N91 60 #[.int .i64 n37, .int .i64 n59, .int .i64 n74, .int .i64 n164, .int .i64 n179, .string n226, .string n241, .int .u64 n211, .int .i64 n197, v732] := hk744; clear hk744
           have hz748 := hg746.size
           have hB749 := hb_at hB738 hg746 (by omega)
           have hk750 := hk739.kept hg746 (by simp; omega)
           exact ⟨hB749, hk750⟩
          rintro _ w743 a742 ⟨hk744, hz745, hg746⟩ h742
          have hk744' : Blk w743 N91 60 #[.int .i64 n37, .int .i64 n59, .int .i64 n74, .int .i64 n164, .int .i64 n179, .string n226, .string n241, .int .u64 n211, .int .i64 n197, v732] := hk744; clear hk744
          have hz748 := hg746.size
          refine p_dr_done (by kernel_rfl) ?_
          refine co_blockN ?_
          refine co_then ?_
          refine co_reg ?_
          refine pk (v := .int .i64 ((i + 1 : Nat) : Int)) h742 rfl (rn_arith' rfl rfl rfl rfl rfl rfl (IntWalk.i64_in _ (by omega)) (by omega)) fun a749 h749 => ?_; clear h742
          refine pk0 (v := .int .i64 ((i + 1 : Nat) : Int)) h749 rfl fun a750 h750 => ?_; clear h749
          refine pl_nil ?_
          refine co_then ?_
          refine ⟨(n270.toNat - (i + 1)), by omega, ?_⟩
          have hR' := sdN_step hR hq461 hq560 hq644
          have ho751 := ho647.new hg712
          have ho752 := ho751.row (row_ne_lt hr736 (by omega)) hg734
          have ho753 := ho752.at (by omega) hg746
          have hr754 := row_kept_at hr733' hg746 (row_ne_lt hr733' (by omega))
          have hB755 := hb_at hB738 hg746 (by omega)
          have hk756 := hk304.kept hg345 (by simp)
          have hk757 := hk756.kept hg465 (by simp; omega)
          have hk758 := hk757.kept hg564 (by simp; omega)
          have hk759 := hk758.kept hg648 (by simp; omega)
          have hk760 := hk759.kept hg712 (by simp)
          have hk761 := hk760.kept hg734 (row_ne_lt hr736 (by omega))
          have hk762 := hk761.kept hg746 (by simp; omega)
          have hk763 := hk739.kept hg746 (by simp; omega)
          exact ⟨i + 1, v732, ls ++ [(n458, n641, n557)], a642, e643, h750.sub ⟨rfl, rfl, rfl, rfl, rfl, trivial⟩, rfl, by omega, by first | rfl | (simp; omega), by first | rfl | exact hR', hk744', ho753, (row_eq hr754 (rfl)), hB755, hk762, hk763⟩
end Go.Proofs.Ytdgboikkgeioeaa

/- Package script: what the deferred closure of step makes of a panic; step. Conditions: none. -/
namespace Go.Proofs.Ytdgboikkgeioeaa
open Go.RowKit Go.PlainAid
set_option linter.unusedVariables false
set_option linter.unusedSimpArgs false

set_option maxRecDepth 100000 in
set_option maxHeartbeats 1600000 in
theorem scatch_idle (p q : Addr) (w : World) :
    CallsD Try.prog 82 #[.pointer (some p), .pointer (some q)] .returning w fun e u' w' => e = .returned (.tuple #[]) ∧ u' = .returning ∧ w' = w := by
  refine callsD_of_wpS Try.func82 rfl fun c₀ cs hu => ?_
  apply wpS_seq
  apply wpS_region
  simp [wpOpsS, go_sem, recoverD, hu, Try.ntmps82, Exit.thenS, ta_nil, ta_err]
  apply wpS_seq
  apply wpS_region
  simp [wpOpsS, go_sem, recoverD, hu, Exit.thenS]
  refine wpS_cond (t := false) (by simp [Act.eval, Array.replicate]) ?_
  simp only [Bool.false_eq_true, if_false]
  refine wpS_of_wp (wp_skip ?_)
  cases c₀
  simp_all [bodyPostS, results, Try.results82]
/-- The cells of a step that is no step. -/
def zev : Array Value := #[.int .i64 0, .int .i64 0, .int .i64 0, .int .i64 0, .int .i64 0, .string ⟨#[]⟩, .string ⟨#[]⟩, .int .u64 0, .int .i64 0, .slice none 0 0]
theorem blk_setN {w : World} {N : Nat} {T : TypeId} {cs : Array Value} (vs : Array Value) (hb : Blk w N T cs) (hk : cs.size = vs.size) : Blk (w.setCells N 0 vs.toList) N T vs ∧ w.grownBy (w.setCells N 0 vs.toList) (some N) ∧ (w.setCells N 0 vs.toList).heap.size = w.heap.size := by
  refine ⟨?_, ?_, ?_⟩
  · have := setCells_blk vs.toList w cs 0 hb (by simp [hk])
    have e : (vs.toList ++ List.drop vs.size cs.toList).toArray = vs := by rw [List.drop_eq_nil_of_le (by simp [hk])]; simp
    simp only [List.take_zero, List.nil_append, Nat.zero_add, Array.length_toList, e] at this
    exact this
  · have hg : ∀ (vs : List Value) (k : Nat) (w : World), w.grownBy (w.setCells N k vs) (some N) := by
      intro vs
      induction vs with
      | nil => intro k w; exact World.grownBy.refl _ _
      | cons v r ih => intro k w; rw [World.setCells]; exact (grown_setCell w N k v).trans (ih _ _)
    exact hg _ _ _
  · have hsz : ∀ (vs : List Value) (k : Nat) (w : World), (w.setCells N k vs).heap.size = w.heap.size := by
      intro vs
      induction vs with
      | nil => intro k w; rfl
      | cons v r ih => intro k w; rw [World.setCells, ih]; simp [World.setCell]
    exact hsz _ _ _
theorem slots2 {n : Nat} {u v : Value} {a : Act} (hn : a.tmps.size = n) (hd : a.defers = []) (h0 : a.tmps.getD 0 undef = u) (h1 : a.tmps.getD 1 undef = v) : Slots n [(0, u), (1, v)] a := ⟨hn, hd, fun t z h => by
  rw [List.lookup_cons] at h
  by_cases e : t = 0
  · subst e; simp at h; subst h; exact h0
  · rw [show (t == 0) = false by simpa using e] at h
    simp only [List.lookup_cons] at h
    by_cases e1 : t = 1
    · subst e1; simp at h; subst h; exact h1
    · rw [show (t == 1) = false by simpa using e1] at h; simp at h⟩
theorem wp_slots {P : Program} {c : Code} {Q : Exit → Act → World → Prop} {a : Act} {w : World} {n : Nat} {m : List (Nat × Value)} (hs : Slots n m a) (h : ∀ a, Slots n m a → c.wp P Q a w) : c.wp P Q a w := h a hs
theorem hb_two {w x y : World} {N M B : Nat} (h1 : w.grownBy x (some N)) (h2 : x.grownBy y (some M)) (hN : B ≤ N) (hM : B ≤ M) (hB : B ≤ w.heap.size) : Below B w y :=
  ((Below.refl B w).grown h1 hB (fun k e => by cases e; exact hN)).grown h2 (Nat.le_trans hB h1.size) (fun k e => by cases e; exact hM)
set_option maxRecDepth 100000 in
set_option maxHeartbeats 1600000 in
theorem scatch_errno (N M : Nat) (x : Int) (cs : Array Value) (b : Bool) (w : World) (hN : Blk w N 60 cs) (hcs : cs.size = 10) (hM : Blk w M 4 #[.bool b]) (hne : N ≠ M) :
    CallsD Try.prog 82 #[pt N 0, pt M 0] (.panicking [thrown x]) w fun e u' w' => e = .returned (.tuple #[]) ∧ u' = .panicking [{ v := .iface 44 (.int .i64 x), recovered := true }] ∧ Blk w' N 60 zev ∧ Blk w' M 4 #[.bool false] ∧ ∀ B, B ≤ N → B ≤ M → B ≤ w.heap.size → Below B w w' := by
  refine callsD_of_wpS Try.func82 rfl fun c₀ cs hu => ?_
  apply wpS_seq
  apply wpS_region
  simp [wpOpsS, go_sem, thrown, recoverD, hu, Try.ntmps82, Exit.thenS, ta_nil, ta_err]
  apply wpS_seq
  apply wpS_region
  simp [wpOpsS, go_sem, recoverD, hu, Exit.thenS]
  refine wpS_cond (t := true) (by simp [Act.eval, Array.replicate]) ?_
  simp only [if_true]
  refine wpS_of_wp ?_
  refine wp_slots (slots2 (n := 11) (u := pt N 0) (v := pt M 0) (by simp) rfl (by simp) (by simp)) fun a hs => ?_
  refine co_reg ?_
  refine pk0 (v := .agg zev) hs rfl fun a1 h1 => ?_
  refine pwD h1 rfl (op_storeN rfl rfl rfl (by kernel_rfl) (by kernel_rfl) hN (by rw [hcs]; rfl)) ?_
  rintro _ w1 a2 ⟨k1, k2, k3⟩ h2
  have hM1 := hM.kept k3 (by simpa using fun e => hne e)
  refine pwD h2 rfl (op_store1 rfl rfl rfl rfl Try.sizeOf4 hM1 rfl) ?_
  rintro _ w2 a3 ⟨k4, k5, k6⟩ h3
  refine pl_nil ?_
  have hN2 := k1.kept k6 (by simpa using fun e => hne e.symm)
  have hB := fun B h1 h2 h3 => hb_two (B := B) k3 k6 h1 h2 h3
  exact ⟨h3.defers, _, rfl, _, by simp [results, Try.results82], rfl, rfl, hN2, k4, hB⟩
def evV (d : EvD) (u : Value) : Array Value := #[.int .i64 d.k, .int .i64 d.nd, .int .i64 d.n, .int .i64 d.ak, .int .i64 d.an, .string d.ky, .string d.tt, .int .u64 d.at_, .int .i64 d.am, u]
theorem two_size (w : World) (a b : Obj) : ((w.alloc a).alloc b).heap.size = w.heap.size + 1 + 1 := by simp
theorem two_lay2 (w : World) (cs : List Value) (ds : Array Value) (T T' : TypeId) : Below w.heap.size w ((w.alloc (.cells cs.toArray T)).alloc (.cells ds T')) ∧ Blk ((w.alloc (.cells cs.toArray T)).alloc (.cells ds T')) w.heap.size T cs.toArray ∧ Blk ((w.alloc (.cells cs.toArray T)).alloc (.cells ds T')) (w.heap.size + 1) T' ds := by
  refine ⟨((Below.refl _ _).alloc (Nat.le_refl _) _).alloc (by simp) _, ?_, ?_⟩
  · unfold Blk World.alloc; simp [Array.getElem?_push]
  · unfold Blk World.alloc; rw [Array.getElem?_push, if_pos (by simp)]
set_option maxRecDepth 100000 in
set_option maxHeartbeats 1600000 in
theorem scStep_y (s : ByteArray) (d : EvD) (w : World) (hs : s.size ≤ 9223372036854775807) (hd : evR s = some d) :
    Calls Try.prog 44 #[.string s] w fun e w' => ∃ u : Value, e = .returned (.tuple #[.agg (evV d u), .bool true]) ∧ w'.ownsRow w.heap.size 66 3 u d.ops.length (d.ops.flatMap opE) ∧ Below w.heap.size w w' := by
  have hmf : ∀ (fn : Fn) (first cap : Array Value) (w : World), (Instr.makeFunc fn first cap).run Try.prog w = .ok (.func fn first cap) w := fun _ _ _ _ => rfl
  have HP := Lib.hid (fun w => scParts_any s w hs)
  have HD := Lib.hid hd
  clear hd
  go_enter_defers Try.func44, Try.ntmps44
  go_wp2_with fail
  refine (HP.out _).mono ?_
  rintro e w1 (⟨d', u, rfl, hr, he, hb⟩ | ⟨l, rfl, he, _, _⟩)
  · obtain rfl : d = d' := by rw [HD.out] at he; exact Option.some.inj he
    obtain ⟨ao, un, uc, rfl⟩ := row_form hr
    have hW := two_lay2 w zev.toList #[.bool false] 60 4
    have hN1 := hW.2.1.below hb
    have hM1 := hW.2.2.below hb
    have c0 : w1.cell? ⟨w.heap.size, 0, none⟩ = some (.int .i64 0) := hN1.cell rfl
    have f0 : w1.frozen? ⟨w.heap.size, 0, none⟩ = false := hN1.frozen 0
    have c1 : w1.cell? ⟨w.heap.size, 1, none⟩ = some (.int .i64 0) := hN1.cell rfl
    have f1 : w1.frozen? ⟨w.heap.size, 1, none⟩ = false := hN1.frozen 1
    have c2 : w1.cell? ⟨w.heap.size, 2, none⟩ = some (.int .i64 0) := hN1.cell rfl
    have f2 : w1.frozen? ⟨w.heap.size, 2, none⟩ = false := hN1.frozen 2
    have c3 : w1.cell? ⟨w.heap.size, 3, none⟩ = some (.int .i64 0) := hN1.cell rfl
    have f3 : w1.frozen? ⟨w.heap.size, 3, none⟩ = false := hN1.frozen 3
    have c4 : w1.cell? ⟨w.heap.size, 4, none⟩ = some (.int .i64 0) := hN1.cell rfl
    have f4 : w1.frozen? ⟨w.heap.size, 4, none⟩ = false := hN1.frozen 4
    have c5 : w1.cell? ⟨w.heap.size, 5, none⟩ = some (.string ⟨#[]⟩) := hN1.cell rfl
    have f5 : w1.frozen? ⟨w.heap.size, 5, none⟩ = false := hN1.frozen 5
    have c6 : w1.cell? ⟨w.heap.size, 6, none⟩ = some (.string ⟨#[]⟩) := hN1.cell rfl
    have f6 : w1.frozen? ⟨w.heap.size, 6, none⟩ = false := hN1.frozen 6
    have c7 : w1.cell? ⟨w.heap.size, 7, none⟩ = some (.int .u64 0) := hN1.cell rfl
    have f7 : w1.frozen? ⟨w.heap.size, 7, none⟩ = false := hN1.frozen 7
    have c8 : w1.cell? ⟨w.heap.size, 8, none⟩ = some (.int .i64 0) := hN1.cell rfl
    have f8 : w1.frozen? ⟨w.heap.size, 8, none⟩ = false := hN1.frozen 8
    have c9 : w1.cell? ⟨w.heap.size, 9, none⟩ = some (.slice none 0 0) := hN1.cell rfl
    have f9 : w1.frozen? ⟨w.heap.size, 9, none⟩ = false := hN1.frozen 9
    have cM : w1.cell? ⟨w.heap.size + 1, 0, none⟩ = some (.bool false) := hM1.cell rfl
    have fM : w1.frozen? ⟨w.heap.size + 1, 0, none⟩ = false := hM1.frozen 0
    have HN1 := Lib.hid hN1; have HM1 := Lib.hid hM1; have HW := Lib.hid hW.1; have HB := Lib.hid hb; have HR := Lib.hid hr
    clear hN1 hM1 hW hb hr he
    go_wp2_with fail
    change bodyPostD _ _ _ _ _ ((w1.setCells w.heap.size 0 (evV d (.slice ao un uc)).toList).setCell ⟨w.heap.size + 1, 0, none⟩ (.bool true))
    obtain ⟨q1, q2, q3⟩ := blk_setN (evV d (.slice ao un uc)) HN1.out rfl
    have q4 := HM1.out.kept q2 (by simp)
    have q5 := setCell_blk q4 0 (.bool true)
    have q6 := grown_setCell (w1.setCells w.heap.size 0 (evV d (.slice ao un uc)).toList) (w.heap.size + 1) 0 (.bool true)
    have q7 := q1.kept q6 (by simp)
    have q8 := HW.out.trans ((HB.out.mono HW.out.size).trans (hb_two (B := w.heap.size) q2 q6 (Nat.le_refl _) (by omega) (Nat.le_trans HW.out.size HB.out.size)))
    have q9 := (HR.out.kept q2 (.inr (row_ne_lt HR.out (by rw [two_size]; omega)))).kept q6 (.inr (row_ne_lt (HR.out.kept q2 (.inr (row_ne_lt HR.out (by rw [two_size]; omega)))) (by rw [two_size]; omega)))
    generalize (w1.setCells w.heap.size 0 (evV d (.slice ao un uc)).toList).setCell ⟨w.heap.size + 1, 0, none⟩ (.bool true) = X at q5 q7 q8 q9 ⊢
    refine leaves_cons (f := 82) (args := #[pt w.heap.size 0, pt (w.heap.size + 1) 0]) (by simp) (by simp [go_sem]) ?_
    refine (scatch_idle _ _ _).mono ?_
    rintro e u' w'' ⟨rfl, rfl, rfl⟩
    have r1 := run_loadVar_mid (P := Try.prog) w'' w.heap.size 0 60 (evV d (.slice ao un uc)).toList _ q7.all Try.underlying60 rfl (by rfl)
    have r2 := q5.cell (k := 0) rfl
    have r3 : (loadVar 4 ⟨w.heap.size + 1, 0, none⟩).run Try.prog w'' = .ok (.bool true) w'' := by
      simp [loadVar, Try.isAgg4, Sem.run_bind, load, Sem.run, r2]
    simp only [Leaves, settle, results, Try.results44]
    exact ⟨.tuple #[.agg (evV d (.slice ao un uc)), .bool true], by simp [asAddr, Sem.run_bind, r1, r3], _, rfl, row_lows q9 (by rw [two_size]; omega), q8⟩
  · rw [HD.out] at he; cases he
set_option maxRecDepth 100000 in
set_option maxHeartbeats 1600000 in
theorem scStep_n (s : ByteArray) (w : World) (hs : s.size ≤ 9223372036854775807) (hd : evR s = none) :
    Calls Try.prog 44 #[.string s] w fun e w' => e = .returned (.tuple #[.agg zev, .bool false]) ∧ Below w.heap.size w w' := by
  have hmf : ∀ (fn : Fn) (first cap : Array Value) (w : World), (Instr.makeFunc fn first cap).run Try.prog w = .ok (.func fn first cap) w := fun _ _ _ _ => rfl
  have HP := Lib.hid (fun w => scParts_any s w hs)
  have HD := Lib.hid hd
  clear hd
  go_enter_defers Try.func44, Try.ntmps44
  go_wp2_with fail
  refine (HP.out _).mono ?_
  rintro e w1 (⟨d', u, rfl, hr, he, hb⟩ | ⟨l, rfl, he, ⟨k, rfl⟩, hb⟩)
  · rw [HD.out] at he; cases he
  · have hW := two_lay2 w zev.toList #[.bool false] 60 4
    have HN1 := Lib.hid (hW.2.1.below hb)
    have HM1 := Lib.hid (hW.2.2.below hb)
    have HW := Lib.hid hW.1; have HB := Lib.hid hb
    clear hW hb he
    go_wp2_with fail
    refine leaves_cons (f := 82) (args := #[pt w.heap.size 0, pt (w.heap.size + 1) 0]) (by simp) (by simp [go_sem]) ?_
    refine (scatch_errno w.heap.size (w.heap.size + 1) k zev false w1 HN1.out rfl HM1.out (by omega)).mono ?_
    rintro e u' w'' ⟨rfl, rfl, q7, q5, q6⟩
    have q8 := HW.out.trans ((HB.out.mono HW.out.size).trans (q6 w.heap.size (Nat.le_refl _) (by omega) (Nat.le_trans HW.out.size HB.out.size)))
    have r1 := run_loadVar_mid (P := Try.prog) w'' w.heap.size 0 60 zev.toList _ q7.all Try.underlying60 rfl (by rfl)
    have r2 := q5.cell (k := 0) rfl
    have r3 : (loadVar 4 ⟨w.heap.size + 1, 0, none⟩).run Try.prog w'' = .ok (.bool false) w'' := by
      simp [loadVar, Try.isAgg4, Sem.run_bind, load, Sem.run, r2]
    simp only [Leaves, settle, results, Try.results44, List.dropWhile_nil]
    exact ⟨.tuple #[.agg zev, .bool false], by simp [asAddr, Sem.run_bind, r1, r3], rfl, q8⟩
end Go.Proofs.Ytdgboikkgeioeaa

/- Package script: the iterator of pieces. Conditions: none. -/
namespace Go.Proofs.Ytdgboikkgeioeaa
open Go.RowKit Go.Shelf
attribute [local go_sem] Oper.semAt_some
set_option linter.unusedVariables false
set_option linter.unusedSimpArgs false

/-- The length that a piece tells at place a. -/
def pcN (S : ByteArray) (a : Nat) : Nat := (S.data.getD a 0).toNat
/-- The pieces from place a on. -/
def pcs (S : ByteArray) (a : Nat) : List ByteArray :=
  if h : a < S.size ∧ pcN S a < S.size - a then S.extract (a + 1) (a + 1 + pcN S a) :: pcs S (a + 1 + pcN S a) else []
termination_by S.size - a
theorem pcs_y {S : ByteArray} {a : Nat} (h : a < S.size ∧ pcN S a < S.size - a) : pcs S a = S.extract (a + 1) (a + 1 + pcN S a) :: pcs S (a + 1 + pcN S a) := by rw [pcs, dif_pos h]
theorem pcs_n {S : ByteArray} {a : Nat} (h : ¬ (a < S.size ∧ pcN S a < S.size - a)) : pcs S a = [] := by rw [pcs, dif_neg h]
/-- Between the rounds: nothing below n changes, and block B lies as it lay. -/
def KpB (n B : Nat) (A C : World) : Prop := Below n A C ∧ C.heap[B]? = A.heap[B]?
theorem KpB.t {n B : Nat} {X Y Z : World} (h : KpB n B X Y) (k : KpB n B Y Z) : KpB n B X Z := ⟨h.1.trans k.1, k.2.trans h.2⟩
theorem ext_all (S : ByteArray) : S.extract 0 S.size = S := by
  apply ByteArray.ext; simp [ByteArray.data_extract]
theorem ext_get (S : ByteArray) (a : Nat) (h : 0 < (S.extract a S.size).size) : ((S.extract a S.size)[0]'h).toNat = pcN S a := by
  unfold pcN
  rw [ByteArray.getElem_extract]
  have h2 : a < S.size := by rw [ByteArray.size_extract] at h; omega
  simp only [Nat.add_zero]
  rw [Array.getD_eq_getD_getElem?, Array.getElem?_eq_getElem h2]; rfl
theorem ext_ext (S : ByteArray) (a n : Nat) (h : a + 1 + n ≤ S.size) : (S.extract a S.size).extract 1 (1 + n) = S.extract (a + 1) (a + 1 + n) := by
  apply ByteArray.ext
  simp only [ByteArray.data_extract]
  rw [Array.extract_extract, show min (a + (1 + n)) S.size = a + 1 + n by omega]
theorem ext_rest (S : ByteArray) (a n : Nat) (h : a + 1 + n ≤ S.size) : (S.extract a S.size).extract (1 + n) (S.size - a) = S.extract (a + 1 + n) S.size := by
  apply ByteArray.ext
  simp only [ByteArray.data_extract]
  rw [Array.extract_extract, show min (a + (S.size - a)) S.size = S.size by omega, show a + (1 + n) = a + 1 + n by omega]
set_option maxRecDepth 100000 in
set_option maxHeartbeats 2000000 in
theorem piter_in (lp B n₀ : Nat) (S : ByteArray) (hsz : S.size ≤ 4611686018427387904) (J : List ByteArray → World → Prop) (hJB : ∀ pre A v, J pre A → J pre (A.setCell ⟨B, 0, none⟩ v))
    (hY : ∀ pre x A, J pre A → (pre ++ [x]) <+: pcs S 0 → YieldAt Fence.wide 1 Try.prog lp #[.string x] A fun e C => e = .returned (.bool true) ∧ J (pre ++ [x]) C ∧ KpB n₀ B A C)
    (W : World) (hB : Blk W B 9 #[.string S]) (h0 : J [] W) :
    CallsIn Fence.wide 2 Try.prog 81 #[.func (.yield lp) #[] #[], .pointer (some ⟨B, 0, none⟩)] W fun e W' => (∃ v, e = .returned v) ∧ J (pcs S 0) W' := by
  have HY := Lib.hid hY; have HJ := Lib.hid hJB
  clear hY hJB
  refine callsIn_of_wp Try.func81 rfl trivial ?_ rfl
  simp only [Try.ntmps81, List.size_toArray, List.length_cons, List.length_nil, Nat.reduceAdd, Nat.reduceSub, Array.replicate_succ, Array.replicate_zero, List.push_toArray, List.append_toArray, List.nil_append, List.cons_append]
  have h1 : 1 ≤ (2 : Nat) := by omega
  gi_wp2
  gi_loopw [3] (fun p wr => ∃ (pre : List ByteArray) (a : Nat), a ≤ S.size ∧ pre ++ pcs S a = pcs S 0 ∧ J pre wr ∧ Hid (Blk wr B 9 #[.string (S.extract a S.size)])) (fun p wr => match wr.cell? ⟨B, 0, none⟩ with | some (.string s) => s.size | _ => 0)
  case atStart => exact ⟨[], 0, Nat.zero_le _, rfl, h0, Lib.hid (by rw [ext_all]; exact hB)⟩
  case round =>
    obtain ⟨pre, a, ha, hpre, hJs, HBW⟩ := hrel
    have hc : wr.cell? ⟨B, 0, none⟩ = some (.string (S.extract a S.size)) := HBW.out.cell (k := 0) rfl
    have hf : wr.frozen? ⟨B, 0, none⟩ = false := HBW.out.frozen 0
    have hsx : (S.extract a S.size).size = S.size - a := by rw [ByteArray.size_extract]; omega
    have HPRE := Lib.hid hpre; clear hpre
    by_cases h2 : a < S.size
    · have hd1 : decide ((0 : Int) < ((S.extract a S.size).size : Int)) = true := decide_eq_true (by rw [hsx]; omega)
      obtain ⟨n, hn⟩ : ∃ n, n = pcN S a := ⟨_, rfl⟩
      have hb0 : ∀ h : 0 < (S.extract a S.size).size, ((S.extract a S.size)[0]'h).toNat = n := fun h => by rw [hn]; exact ext_get S a h
      have hn8 : n < 256 := by rw [hn]; exact UInt8.toNat_lt _
      have HN := Lib.hid hn; clear hn
      have hw1 : wrap64 ((n : Nat) : Int) = (n : Int) := by unfold wrap64; omega
      have hw2 : wrap64 (1 + ((n : Nat) : Int)) = 1 + (n : Int) := by unfold wrap64; omega
      by_cases h3 : n < S.size - a
      · have hd2 : decide (((S.size - a : Nat) : Int) < 1 + (n : Int)) = false := decide_eq_false (by omega)
        have hx1 : (S.extract a S.size).extract 1 (1 + n) = S.extract (a + 1) (a + 1 + n) := ext_ext S a n (by omega)
        have hp : (pre ++ [S.extract (a + 1) (a + 1 + n)]) ++ pcs S (a + 1 + n) = pcs S 0 := by
          have h := HPRE.out
          rw [pcs_y (a := a) ⟨h2, by rw [← HN.out]; exact h3⟩, ← HN.out] at h
          rw [← h]; simp
        obtain ⟨fn, tmps, assign, body, hy, hR⟩ := HY.out pre _ wr hJs (hp ▸ List.prefix_append _ _)
        have HP := Lib.hid hp
        clear hp
        gi_wp2_with fail
        refine hR.mono ?_
        rintro e W3 ⟨rfl, hJ3, hk3⟩
        have hB3 : Blk W3 B 9 #[.string (S.extract a S.size)] := by have h := HBW.out; unfold Blk at h ⊢; rw [hk3.2]; exact h
        have hc3 : W3.cell? ⟨B, 0, none⟩ = some (.string (S.extract a S.size)) := hB3.cell (k := 0) rfl
        have hf3 : W3.frozen? ⟨B, 0, none⟩ = false := hB3.frozen 0
        have HB3 := Lib.hid hB3; have HJ3 := Lib.hid hJ3; have HK3 := Lib.hid hk3
        have HC := Lib.hid hc
        clear hB3 hJ3 hk3 hc hf hy
        gi_wp2
        have hle : a + 1 + n ≤ S.size := by omega
        refine ⟨⟨pre ++ [S.extract (a + 1) (a + 1 + n)], a + 1 + n, hle, HP.out, HJ.out _ _ _ HJ3.out, Lib.hid (by rw [← ext_rest S a n hle]; exact setCell_blk HB3.out 0 _)⟩, ?_⟩
        rw [World.cell?_setCell_same _ _ _ hc3, HC.out]
        show ((S.extract a S.size).extract (1 + n) (S.size - a)).size < (S.extract a S.size).size
        rw [ext_rest S a n hle, ByteArray.size_extract, ByteArray.size_extract]; omega
      · have hd2 : decide (((S.size - a : Nat) : Int) < 1 + (n : Int)) = true := decide_eq_true (by omega)
        gi_wp2
        all_goals refine ⟨fun _ h => (by cases h), ?_⟩
        gi_wp2
        exact ⟨rfl, .tuple #[], by simp [results, Try.results81], ⟨_, rfl⟩, by have h := HPRE.out; rw [pcs_n (fun q => h3 (by rw [HN.out]; exact q.2)), List.append_nil] at h; rw [← h]; exact hJs⟩
    · have hd1 : decide ((0 : Int) < ((S.extract a S.size).size : Int)) = false := decide_eq_false (by rw [hsx]; omega)
      gi_wp2
      go_end0
      exact ⟨⟨_, rfl⟩, by have h := HPRE.out; rw [pcs_n (fun q => h2 q.1), List.append_nil] at h; rw [← h]; exact hJs⟩
end Go.Proofs.Ytdgboikkgeioeaa

/- Package script: a range over the pieces; Of. Conditions: texts of at most 2^62 bytes. -/
namespace Go.Proofs.Ytdgboikkgeioeaa
open Go.RowKit Go.Shelf
attribute [local go_sem] Oper.semAt_some
set_option linter.unusedVariables false
set_option linter.unusedSimpArgs false

/-- It yields ks, to whatever goes on always; what holds of the worlds between may lean on all that lay at the start. -/
def SeqB {α : Type} (P : Program) (gf : Nat) (lb : Array Value) (encs : α → Array Value) (Kp : World → World → Prop) (ks : List α) (Bx : Nat) (w : World) : Prop :=
  ∀ (l : Nat) (J : List α → World → Prop) (W : World), Below w.heap.size w W → w.heap.size + 2 ≤ W.heap.size →
    (∀ pre A B row, J pre A → A.grownBy B row → (∀ r, row = some r → W.heap.size ≤ r ∧ ∃ o : Obj, A.heap[r]? = some o ∧ o.isCells = false) → J pre B) →
    (∀ pre A v, J pre A → J pre (A.setCell ⟨Bx, 0, none⟩ v)) →
    (∀ pre x A, J pre A → (pre ++ [x]) <+: ks → YieldAt Fence.wide 1 P l (encs x) A fun e B => e = .returned (.bool true) ∧ J (pre ++ [x]) B ∧ Kp A B) →
    J [] W → CallsIn Fence.wide 2 P gf (#[.func (.yield l) #[] #[]] ++ lb) W fun e B => (∃ v, e = .returned v) ∧ J ks B
/-- A round ends so. -/
def rfPostB {α : Type} (B : Nat) (Kp : World → World → Prop) (I : List α → World → Prop) (pre : List α) (W : World) : Exit → Act → World → Prop
  | .normal, _, W' => KeepsFrom B W W' ∧ Kp W W' ∧ I pre W'
  | _, _, _ => False
theorem rf_allB {α : Type} {P : Program} {n : Nat} {g : Operand} {ps : Array Tmp} {assign body : Code} {Q : Exit → Act → World → Prop} {a : Act} {w : World} {gf : Nat} {lb : Array Value} (hg : a.eval g = .func (.func gf) #[] lb)
    (eg : ∀ args w, (callFunc gf args).run P w = .ok (.enter gf args) w) {encs : α → Array Value} {Kp : World → World → Prop} {ks : List α} {Bx : Nat} (hseq : SeqB P gf lb encs Kp ks Bx w) (hBx : Bx < w.heap.size) (hps : ∀ x, (encs x).size = ps.size)
    (hKt : ∀ {A B C : World}, Kp A B → Kp B C → Kp A C) (hKb : ∀ (W : World) (o o' : Obj), W.heap[w.heap.size + 1]? = some o → o.isCells = false → Kp W (W.putObj (w.heap.size + 1) o'))
    (I : List α → World → Prop) (hIB : ∀ pre A v, I pre A → I pre (A.setCell ⟨Bx, 0, none⟩ v)) (hI : OwnFrom w.heap.size I) (h0 : I [] w) (Ax : α → Act → World → Prop) (hAx : ∀ x a', OwnFrom w.heap.size (fun (_ : Unit) W => Ax x a' W))
    (hassign : ∀ (l : Nat) (pre : List α) (x : α) (W : World) (K : Act → World → Prop), I pre W → (∀ a' W', KeepsFrom w.heap.size W W' → Kp W W' → I pre W' → Ax x a' W' → K a' W') →
      assign.wpIn (Fence.wide.inRound l) 1 P (Exit.then K (fun _ _ _ => False)) { tmps := (ps.zip (encs x)).foldl (fun t (p, v) => t.setIfInBounds p v) a.tmps, defers := [] } W)
    (hbody : ∀ (l : Nat) (pre : List α) (x : α) (a' : Act) (W : World), w.heap.size + 1 = l → l < W.heap.size → I pre W → Ax x a' W → (pre ++ [x]) <+: ks → body.wpIn (Fence.wide.inRound l) 1 P (rfPostB w.heap.size Kp I (pre ++ [x]) W) a' W)
    (hdone : ∀ (D : Nat) (W : World), w.heap.size ≤ D → I ks W → W.heap[D]? = some (.deferred (some [])) → Q .normal { a with defers := { target := .collected D, args := #[] } :: a.defers } W) :
    (Code.rangeFunc g ps assign body).wpIn Fence.wide n P Q a w := by
  refine wpIn_rangeFunc fun fn hfn => ?_
  let R : LoopState → Option Code → Loop := fun st pe => { state := st, pending := pe, fn := fn, tmps := a.tmps, params := ps, assign := assign, body := body, defers := w.heap.size }
  obtain ⟨V, hV⟩ : ∃ V, V = (w.alloc (.deferred (some []))).alloc (.loop (R .ready none)) := ⟨_, rfl⟩
  have vL : V.heap[w.heap.size + 1]? = some (.loop (R .ready none)) := by rw [hV]; have := World.alloc_heap_new (w.alloc (.deferred (some []))) (.loop (R .ready none)); rwa [World.size_alloc] at this
  have vD : V.heap[w.heap.size]? = some (.deferred (some [])) := by rw [hV]; exact (Below.heap_alloc _ _ _ (by simp)).trans (World.alloc_heap_new w _)
  have vS : V.heap.size = w.heap.size + 2 := by rw [hV]; simp
  have vI : I [] V := by rw [hV]; exact hI.alloc _ (hI.alloc _ h0)
  have vB : Below w.heap.size w V := by rw [hV]; exact ((Below.refl _ w).alloc (Nat.le_refl _) _).alloc (by simp) _
  refine ⟨w.heap.size + 1, [{ target := .collected w.heap.size, args := #[] }], V, { target := .fn (.func gf) lb, args := #[.func (.yield (w.heap.size + 1)) #[] #[]] }, V, gf,
    #[.func (.yield (w.heap.size + 1)) #[] #[]] ++ lb, V, by rw [hV]; exact run_enterLoop_outer _ _ _ _ _, by simp only [resolve, hg]; simp [go_sem], (fun f' hf' => by simp [Target.leads] at hf'; subst hf'; trivial), by simp [invoke, go_sem, eg], (fun h => by cases h), ?_⟩
  refine (callsIn_wide.2 (callsIn_wide.1 (hseq (w.heap.size + 1) (fun pre W => I pre W ∧ W.heap[w.heap.size + 1]? = some (.loop (R .ready none)) ∧ W.heap[w.heap.size]? = some (.deferred (some []))) V vB (by omega) ?_ ?_ ?_ ⟨vI, vL, vD⟩))).mono ?_
  · rintro pre A B row ⟨h1, h2, h3⟩ hg' hr
    refine ⟨hI pre A B row h1 hg' (fun r e => ⟨by have := (hr r e).1; omega, (hr r e).2⟩), ?_, ?_⟩
    · exact (hg'.block _ (Array.getElem?_eq_some_iff.1 h2).1 (fun e => by have := (hr _ e.symm).1; omega)).trans h2
    · exact (hg'.block _ (Array.getElem?_eq_some_iff.1 h3).1 (fun e => by have := (hr _ e.symm).1; omega)).trans h3
  · rintro pre A v ⟨h1, h2, h3⟩
    have hg' := grown_setCell A Bx 0 v
    exact ⟨hIB pre A v h1, (hg'.block _ (Array.getElem?_eq_some_iff.1 h2).1 (fun e => by simp at e; omega)).trans h2, (hg'.block _ (Array.getElem?_eq_some_iff.1 h3).1 (fun e => by simp at e; omega)).trans h3⟩
  · rintro pre x A ⟨h1, h2, h3⟩ hp
    have hy := run_yield (P := P) (args := encs x) h2 (hps x)
    refine ⟨fn, _, assign, body, hy, ?_⟩
    refine roundIn_of_wpIn hfn ?_
    refine hassign _ pre x A _ h1 fun a' B kf kp h1' hax => ?_
    have b2 := kf.same _ _ (by omega) h2 rfl
    have b3 := kf.same _ _ (Nat.le_refl _) h3 rfl
    have hlt : w.heap.size + 1 < B.heap.size := (Array.getElem?_eq_some_iff.1 b2).1
    refine ⟨_, run_beginRound b2 rfl, ?_⟩
    have c2 : (B.putObj (w.heap.size + 1) (.loop (R .busy none))).heap[w.heap.size + 1]? = some (.loop (R .busy none)) := World.putObj_heap_same hlt
    have c3 : (B.putObj (w.heap.size + 1) (.loop (R .busy none))).heap[w.heap.size]? = some (.deferred (some [])) := (World.putObj_heap_other (by omega)).trans b3
    refine wpIn_mono (hbody _ pre x a' (B.putObj (w.heap.size + 1) (.loop (R .busy none))) rfl (Array.getElem?_eq_some_iff.1 c2).1 (hI.putObj _ h1' (by omega) b2 rfl) ((hAx x a').putObj (s := ()) _ hax (by omega) b2 rfl) hp) ?_
    rintro e a3 C hq
    cases e with
    | normal =>
      obtain ⟨q1, q2, q3⟩ := hq
      have d2 := q1.same _ _ (by omega) c2 rfl
      have d3 := q1.same _ _ (Nat.le_refl _) c3 rfl
      refine ⟨_, _, run_endRound none d2, rfl, ⟨hI.putObj _ q3 (by omega) d2 rfl, World.putObj_heap_same (Array.getElem?_eq_some_iff.1 d2).1, (World.putObj_heap_other (by omega)).trans d3⟩, ?_⟩
      exact hKt kp (hKt (hKt (hKb _ _ _ b2 rfl) q2) (hKb _ _ _ d2 rfl))
    | ret => exact hq.elim
    | exit id => exact hq.elim
    | goto t => exact hq.elim
    | panic ch => exact hq.elim
    | outgrown => exact hq.elim
  · rintro e B ⟨⟨v, rfl⟩, h1, h2, h3⟩
    exact ⟨none, _, run_endLoop h2 (by simp [R]), hdone _ _ (Nat.le_refl _) (hI.putObj _ h1 (by omega) h2 rfl) ((World.putObj_heap_other (by omega)).trans h3)⟩

theorem pieces_any (S : ByteArray) (w : World) :
    CallsIn Fence.wide 2 Try.prog 43 #[.string S] w fun e w' => e = .returned (.func (.func 81) #[] #[.pointer (some ⟨w.heap.size, 0, none⟩)]) ∧ w' = w.alloc (.cells #[.string S] 9) := by
  refine callsIn_of_wp Try.func43 rfl trivial ?_ rfl
  simp only [Try.ntmps43, List.size_toArray, List.length_cons, List.length_nil, Nat.reduceAdd, Nat.reduceSub, Array.replicate_succ, Array.replicate_zero, List.push_toArray, List.append_toArray, List.nil_append, List.cons_append]
  gi_wp2
  go_ret
  exact ⟨rfl, rfl⟩
theorem pieces_seq (S : ByteArray) (hsz : S.size ≤ 4611686018427387904) (n₀ B : Nat) (w : World) (hB : Blk w B 9 #[.string S]) :
    SeqB Try.prog 81 #[.pointer (some ⟨B, 0, none⟩)] (fun x : ByteArray => #[.string x]) (KpB n₀ B) (pcs S 0) B w := fun lp J W hW hz hst hJB hY h0 =>
  piter_in lp B n₀ S hsz J hJB hY W (by have h := hB; unfold Blk at h ⊢; rw [hW.block B (Array.getElem?_eq_some_iff.1 h).1]; exact h) h0
end Go.Proofs.Ytdgboikkgeioeaa

/- Package script: Of. Conditions: texts of at most 1000000 bytes. -/
namespace Go.Proofs.Ytdgboikkgeioeaa
open Go.RowKit Go.Shelf
attribute [local go_sem] Oper.semAt_some
set_option linter.unusedVariables false
set_option linter.unusedSimpArgs false

theorem info_ev : (Try.prog.info? 60).map (fun i => (i.zero, i.size, i.bytes)) = some (some (.agg zev), 10, 112) := by kernel_rfl
/-- The steps in a text's pieces. -/
def stepsR (S : ByteArray) : List EvD := (pcs S 0).filterMap evR
/-- What Of's loop keeps: the list in its box, each step's operations. -/
def IO (N b : Nat) (pre : List ByteArray) (X : World) : Prop := ∃ (v : Value) (us : List EvX), us.map EvX.d = pre.filterMap evR ∧ Boxed X N 50 v ∧ X.ownsRow b 60 10 v us.length (us.flatMap evE) ∧ ∀ z ∈ us, X.ownsRow b 66 3 z.ov z.d.ops.length (z.d.ops.flatMap opE)
theorem row_ntype {X : World} {b r sz k : Nat} {e : TypeId} {v : Value} {xs : List Value} (h : X.ownsRow b e sz v k xs) (hr : ∀ cur, X.heap[r]? ≠ some (.cells cur e (0, 0))) : v.ownBlock ≠ some r := fun q => by
  rcases h.2 with ⟨rfl, _⟩ | ⟨g, cap, cur, rfl, hb, hg, _⟩
  · simp [Value.ownBlock] at q
  · simp [Value.ownBlock] at q; subst q; exact hr _ hg
theorem IO.keep {N b : Nat} {pre : List ByteArray} {X Y : World} {row : Option Nat} (h : IO N b pre X) (hg : X.grownBy Y row) (hr : ∀ r, row = some r → ∀ cur e, (e = 50 ∨ e = 60 ∨ e = 66) → X.heap[r]? ≠ some (.cells cur e (0, 0))) : IO N b pre Y := by
  obtain ⟨v, us, h1, h2, h3, h4⟩ := h
  have hn : ∀ {e : TypeId} {sz k : Nat} {u : Value} {xs : List Value}, (e = 50 ∨ e = 60 ∨ e = 66) → X.ownsRow b e sz u k xs → Y.ownsRow b e sz u k xs := fun {e sz k u xs} he hu => by
    cases row with
    | none => exact hu.kept hg (by cases u.ownBlock <;> simp)
    | some r => exact hu.kept hg (.inr (row_ntype hu (fun cur => hr r rfl cur e he)))
  refine ⟨v, us, h1, h2.kept hg (fun e => ?_), hn (.inr (.inl rfl)) h3, fun z hz => hn (.inr (.inr rfl)) (h4 z hz)⟩
  exact hr N e.symm _ _ (.inl rfl) h2
theorem IO.own (N b B : Nat) : OwnFrom B (IO N b) := fun s X Y row hs hg hr => hs.keep hg (fun r e cur t _ q => by obtain ⟨_, o, ho, hc⟩ := hr r e; rw [q] at ho; cases ho; cases hc)
theorem KpB.of_below {n B : Nat} {X Y : World} (h : Below X.heap.size X Y) (hn : n ≤ X.heap.size) (hB : B < X.heap.size) : KpB n B X Y := ⟨h.mono hn, h.block B hB⟩
theorem KpB.grown {n B : Nat} {X Y : World} {row : Option Nat} (h : X.grownBy Y row) (hn : n ≤ X.heap.size) (hr : ∀ r, row = some r → n ≤ r ∧ r ≠ B) (hB : B < X.heap.size) : KpB n B X Y :=
  ⟨(Below.refl n X).grown h hn (fun k e => (hr k e).1), h.block B hB (fun e => (hr B e.symm).2 rfl)⟩
theorem kf_below {B : Nat} {X Y : World} (h : Below X.heap.size X Y) : KeepsFrom B X Y := (KeepsOthers.of_grownBy (below_grown h) (fun j o e => by cases e)).from B

theorem pcs_mem (S : ByteArray) : ∀ (k a : Nat), S.size - a ≤ k → (pcs S a).length ≤ k ∧ ∀ x ∈ pcs S a, x.size ≤ 255
  | 0, a, h => by rw [pcs_n (fun q => by omega)]; simp
  | k + 1, a, h => by
    by_cases q : a < S.size ∧ pcN S a < S.size - a
    · obtain ⟨h1, h2⟩ := pcs_mem S k (a + 1 + pcN S a) (by omega)
      rw [pcs_y q]
      refine ⟨by rw [List.length_cons]; omega, fun x hx => ?_⟩
      rcases List.mem_cons.1 hx with rfl | hx
      · have h8 : pcN S a < 256 := UInt8.toNat_lt _
        rw [ByteArray.size_extract]; omega
      · exact h2 x hx
    · rw [pcs_n q]; simp
set_option maxRecDepth 100000 in
set_option maxHeartbeats 4000000 in
theorem scOf_any (S : ByteArray) (w : World) (hsz : S.size ≤ 1000000) :
    Calls Try.prog 21 #[.string S] w fun e w' => ∃ (v : Value) (us : List EvX), e = .returned v ∧ us.map EvX.d = stepsR S ∧ w'.ownsRow w.heap.size 60 10 v us.length (us.flatMap evE) ∧ (∀ z ∈ us, w'.ownsRow w.heap.size 66 3 z.ov z.d.ops.length (z.d.ops.flatMap opE)) ∧ Below w.heap.size w w' := by
  obtain ⟨i0, hi, hz0, hz1, hz2⟩ := info_parts info_ev
  obtain ⟨N, hN⟩ : ∃ N, N = w.heap.size := ⟨_, rfl⟩
  have HN := Lib.hid hN; clear hN
  refine (callsIn_wide (n := 3)).1 ?_
  refine callsIn_of_wp_marks Try.func21 rfl trivial ?_ rfl
  simp only [Try.ntmps21, List.size_toArray, List.length_cons, List.length_nil, Nat.reduceAdd, Nat.reduceSub, Array.replicate_succ, Array.replicate_zero, List.push_toArray, List.append_toArray, List.nil_append, List.cons_append]
  gi_wp2_with (refine ⟨trivial, ?_⟩; gi_at_call 43; refine (callsIn_wide.2 (callsIn_wide.1 (pieces_any S _))).mono ?_; rintro e w' ⟨rfl, rfl⟩)
  rw [← HN.out]
  obtain ⟨W0, hW0⟩ : ∃ W0, W0 = (w.alloc (.cells #[.slice none 0 0] 50)).alloc (.cells #[.string S] 9) := ⟨_, rfl⟩
  have bL : Boxed W0 N 50 (.slice none 0 0) := by rw [hW0, HN.out]; exact (Boxed.new w _ _).alloc _
  have bS : Boxed W0 (N + 1) 9 (.string S) := by
    have h := Boxed.new (w.alloc (.cells #[.slice none 0 0] 50)) 9 (.string S)
    rw [World.size_alloc, ← HN.out] at h; rw [hW0]; exact h
  have hB0 : Below N w W0 := by rw [hW0, HN.out]; exact ((Below.refl _ w).alloc (Nat.le_refl _) _).alloc (by simp) _
  have hz : W0.heap.size = N + 2 := by rw [hW0, HN.out]; simp
  rw [← hW0]; clear hW0
  refine rf_allB (gf := 81) (lb := #[.pointer (some ⟨N + 1, 0, none⟩)]) rfl (enters_of Try.func81 (by kernel_rfl) rfl) (pieces_seq S (by omega) N (N + 1) W0 bS) (by omega) (fun _ => rfl) KpB.t
    (fun X o o' h hc => KpB.grown (grownBy_putObj' X _ o') (by have := (Array.getElem?_eq_some_iff.1 h).1; omega) (fun r e => by cases e; omega) (by have := (Array.getElem?_eq_some_iff.1 h).1; omega))
    (fun pre X => IO N (N + 4) pre X ∧ (∃ u, Boxed X (N + 1) 9 u) ∧ Below N w X) ?hIB ?hI ⟨⟨_, [], rfl, bL, World.ownsRow_nil _ _ _ _, by simp⟩, ⟨_, bS⟩, hB0⟩
    (fun x a' X => a' = { tmps := #[.string S, undef, .slice none 0 0, .pointer (some ⟨N, 0, none⟩), .string x, undef, undef, .string S, .func (.func 81) #[] #[.pointer (some ⟨N + 1, 0, none⟩)], .string x, undef, undef, undef, undef, undef, undef, undef, undef, undef, undef, undef], defers := [] }) (fun x a' _ X Y row hs hg hr => hs) ?assign ?body ?done
  case hIB =>
    rintro pre A v ⟨h1, ⟨u, h2⟩, h3⟩
    refine ⟨h1.keep (grown_setCell A (N + 1) 0 v) (fun r e cur t ht q => ?_), ⟨_, h2.set v⟩, h3.setCell (by show N ≤ N + 1; omega) v⟩
    cases e; rw [show A.heap[N + 1]? = _ from h2] at q; simp only [Option.some.injEq, Obj.cells.injEq] at q
    rcases ht with rfl | rfl | rfl <;> exact absurd q.2.1 (by decide)
  case hI =>
    rintro s X Y row ⟨h1, ⟨u, h2⟩, h3⟩ hg hr
    exact ⟨IO.own N (N + 4) W0.heap.size s X Y row h1 hg hr, ⟨u, h2.kept hg (fun e' => by obtain ⟨_, o, ho, hc⟩ := hr (N + 1) e'.symm; rw [show X.heap[N + 1]? = _ from h2] at ho; cases ho; cases hc)⟩, ownFrom_below (by have := HN.out; omega) (by omega) s X Y row h3 hg hr⟩
  case assign =>
    rintro lp pre x X K hI hK
    have HI := Lib.hid hI; clear hI
    gi_wp2
    exact hK _ _ (KeepsFrom.refl _ _) ⟨Below.refl _ _, rfl⟩ HI.out rfl
  case body =>
    rintro lp pre x a' X hlp hlt ⟨⟨v, us, hus, hv, hrow, hops⟩, ⟨sv, hS⟩, hB⟩ rfl hp
    obtain ⟨hl1, hl2⟩ := pcs_mem S S.size 0 (by omega)
    have hx8 : x.size ≤ 255 := hl2 x (hp.subset (by simp))
    have hul : us.length ≤ pre.length := by have h := congrArg List.length hus; rw [List.length_map] at h; rw [h]; exact List.length_filterMap_le _ _
    have hpl : pre.length < 1000001 := by have := hp.length_le; simp at this; omega
    have hN2 : N + 4 ≤ X.heap.size := by omega
    have cv := hv.cell
    have HO := Lib.hid hops; have HR := Lib.hid hrow; have HU := Lib.hid hus; have HB := Lib.hid hB; have HV := Lib.hid hv; have HS := Lib.hid hS
    clear hops hrow hus hB hv hS bL bS hB0 hp hl2
    cases hx : evR x with
    | none =>
      have HX := Lib.hid hx; clear hx
      gi_wp2_with (refine ⟨trivial, ?_⟩; gi_at_call 44; refine (callsIn_wide.2 (scStep_n x _ (by omega) HX.out)).mono ?_; rintro e X1 ⟨rfl, hb1⟩; dsimp only [zev])
      have hbA := hb1.alloc hb1.size (.cells #[.int .i64 0, .int .i64 0, .int .i64 0, .int .i64 0, .int .i64 0, .string ⟨#[]⟩, .string ⟨#[]⟩, .int .u64 0, .int .i64 0, .slice none 0 0] 60)
      have hIO := IO.keep (⟨v, us, HU.out, HV.out, HR.out, HO.out⟩ : IO N (N + 4) pre X) (below_grown hbA) (fun r e => nomatch e)
      have hfm : (pre ++ [x]).filterMap evR = pre.filterMap evR := by simp [List.filterMap_append, HX.out]
      obtain ⟨v', us', q1, q2⟩ := hIO
      exact ⟨kf_below hbA, KpB.of_below hbA (by omega) (by omega), ⟨v', us', by rw [hfm]; exact q1, q2⟩, ⟨_, HS.out.kept (below_grown hbA) (by simp)⟩, HB.out.trans (hbA.mono (by omega))⟩
    | some d =>
      have HX := Lib.hid hx; clear hx
      gi_wp2_with (first
        | (refine ⟨trivial, ?_⟩; gi_at_call 44; refine (callsIn_wide.2 (scStep_y x d _ (by omega) HX.out)).mono ?_; rintro e X1 ⟨u, rfl, hr1, hb1⟩; obtain ⟨ao, un, uc, rfl⟩ := row_form hr1; dsimp only [evV]; have hv1 := HV.out.kept (below_grown hb1) (by simp); have cv1 := hv1.cell; have cv2 := (hv1.alloc (.cells #[.int .i64 d.k, .int .i64 d.nd, .int .i64 d.n, .int .i64 d.ak, .int .i64 d.an, .string d.ky, .string d.tt, .int .u64 d.at_, .int .i64 d.am, .slice ao un uc] 60)).cell; have hrow1 := HR.out.kept (below_grown hb1) (by cases v.ownBlock <;> simp); have hsz1 := hb1.size)
        | (gi_at_builtin; refine wpListIn_append_own _ rfl _ _ 50 rfl (N + 4) 60 i0 (.agg zev) 10 112 Try.underlying50 hi hz0 hz1 hz2 rfl (by decide) _ _ _ rfl ((hrow1.alloc _).alloc _) ⟨X1.heap.size + 1, 0, none⟩ 1 1 [.int .i64 d.k, .int .i64 d.nd, .int .i64 d.n, .int .i64 d.ak, .int .i64 d.an, .string d.ky, .string d.tt, .int .u64 d.at_, .int .i64 d.am, .slice ao un uc] rfl rfl (by have h := World.alloc_heap_new (X1.alloc (.cells #[.int .i64 d.k, .int .i64 d.nd, .int .i64 d.n, .int .i64 d.ak, .int .i64 d.an, .string d.ky, .string d.tt, .int .u64 d.at_, .int .i64 d.am, .slice ao un uc] 60)) (.cells #[.int .i64 d.k, .int .i64 d.nd, .int .i64 d.n, .int .i64 d.ak, .int .i64 d.an, .string d.ky, .string d.tt, .int .u64 d.at_, .int .i64 d.am, .slice ao un uc] 60); rw [World.size_alloc] at h; exact World.news_of_block h) (by simp [Value.oneCell']) (by unfold maxLen; omega) (by omega) (by simp; omega) ?_; intro v' w1 hown' hgrow _; obtain ⟨g', cap', rfl⟩ := ownsRow_succ hown'; obtain ⟨p1, p2, p3, p4, p5⟩ := (hv1.alloc (.cells #[.int .i64 d.k, .int .i64 d.nd, .int .i64 d.n, .int .i64 d.ak, .int .i64 d.an, .string d.ky, .string d.tt, .int .u64 d.at_, .int .i64 d.am, .slice ao un uc] 60)).appended (by decide) (row_lows (hrow1.alloc _) (by omega) : World.ownsRow _ N _ _ _ _ _) (by simp; omega) (Nat.le_refl _) (row_lows hown' (by omega) : World.ownsRow _ N _ _ _ _ _) hgrow; have hc1 := p1.cell; have hf1 := p1.frozen))
      have hbA := hb1.alloc hb1.size (.cells #[.int .i64 d.k, .int .i64 d.nd, .int .i64 d.n, .int .i64 d.ak, .int .i64 d.an, .string d.ky, .string d.tt, .int .u64 d.at_, .int .i64 d.am, .slice ao un uc] 60)
      have hs1 := (HS.out.kept (below_grown hb1) (by simp)).alloc (.cells #[.int .i64 d.k, .int .i64 d.nd, .int .i64 d.n, .int .i64 d.ak, .int .i64 d.an, .string d.ky, .string d.tt, .int .u64 d.at_, .int .i64 d.am, .slice ao un uc] 60)
      have hsF := ((hs1.alloc (.cells #[.int .i64 d.k, .int .i64 d.nd, .int .i64 d.n, .int .i64 d.ak, .int .i64 d.an, .string d.ky, .string d.tt, .int .u64 d.at_, .int .i64 d.am, .slice ao un uc] 60)).kept hgrow (hs1.not_row (by decide) (hrow1.alloc _))).kept (grownBy_setCell' w1 N (.slice (some ⟨g', 0, none⟩) (us.length + 1) cap')) (by simp)
      have hop : ∀ {u : Value} {l : List OpT}, X1.ownsRow (N + 4) 66 3 u l.length (l.flatMap opE) → (w1.setCell ⟨N, 0, none⟩ (.slice (some ⟨g', 0, none⟩) (us.length + 1) cap')).ownsRow (N + 4) 66 3 u l.length (l.flatMap opE) := fun {u l} h => by
        have h2 := row_kept_row ((h.alloc (.cells #[.int .i64 d.k, .int .i64 d.nd, .int .i64 d.n, .int .i64 d.ak, .int .i64 d.an, .string d.ky, .string d.tt, .int .u64 d.at_, .int .i64 d.am, .slice ao un uc] 60)).alloc (.cells #[.int .i64 d.k, .int .i64 d.nd, .int .i64 d.n, .int .i64 d.ak, .int .i64 d.an, .string d.ky, .string d.tt, .int .u64 d.at_, .int .i64 d.am, .slice ao un uc] 60)) ((hrow1.alloc _).alloc _) hgrow (by decide)
        exact h2.kept (grownBy_setCell' w1 N _) (.inr (p1.not_row (by decide) h2).symm)
      have hfm : (pre ++ [x]).filterMap evR = pre.filterMap evR ++ [d] := by simp [List.filterMap_append, HX.out]
      refine ⟨(kf_below hbA).trans (p4.from _), (KpB.of_below hbA (by omega) (by omega)).t ⟨p5, hsF.trans hs1.symm⟩, ⟨_, us ++ [⟨d, .slice ao un uc⟩], by rw [hfm, List.map_append, HU.out]; rfl, p2, ?_, fun z hz => ?_⟩, ⟨_, hsF⟩, HB.out.trans ((hbA.mono (by omega)).trans p5)⟩
      · rw [List.length_append, List.flatMap_append]
        exact hown'.kept (grownBy_setCell' w1 N _) (.inr (p1.not_row (by decide) hown').symm)
      · rcases List.mem_append.1 hz with hz | hz
        · exact hop ((HO.out z hz).kept (below_grown hb1) (by cases z.ov.ownBlock <;> simp))
        · rw [List.mem_singleton] at hz; subst hz; exact hop (row_lows hr1 (by omega))
  case done =>
    rintro D X hD ⟨⟨v, us, hus, hv, hrow, hops⟩, -, hB⟩ hdf
    have cv := hv.cell
    have HO := Lib.hid hops; have HR := Lib.hid hrow; have HU := Lib.hid hus; have HB := Lib.hid hB; have HD := Lib.hid hdf; have HDD := Lib.hid hD
    clear hops hrow hus hB hdf bL bS hB0
    gi_wp2
    refine ⟨by simp, .inl ⟨_, _, rfl, run_takeDeferred HD.out, ?_⟩⟩
    have hlD := (Array.getElem?_eq_some_iff.1 HD.out).1
    have hB2 : Below N w (X.putObj D (.deferred none)) := HB.out.grown (grownBy_putObj' X D _) (by have := HDD.out; omega) (fun k e => by cases e; have := HDD.out; omega)
    rw [HN.out] at hB2
    exact ⟨_, results_tmp rfl _ _ _, v, us, rfl, HU.out, ownsRow_putObj (row_lows HR.out (by have := HN.out; omega)) _ HD.out rfl, fun z hz => ownsRow_putObj (row_lows (HO.out z hz) (by have := HN.out; omega)) _ HD.out rfl, hB2⟩
end Go.Proofs.Ytdgboikkgeioeaa

/- Package script, pure: the pieces of texts that are put together; steps there and back. Conditions: none. -/
namespace Go.Proofs.Ytdgboikkgeioeaa
open Go.RowKit Go.PlainAid
set_option linter.unusedVariables false
set_option linter.unusedSimpArgs false

def pcL (p : ByteArray) : List UInt8 := UInt8.ofNat p.size :: p.data.toList
theorem pcs_list (S : ByteArray) : ∀ (ps : List ByteArray) (a : Nat), (∀ p ∈ ps, p.size ≤ 255) → S.data.toList.drop a = ps.flatMap pcL → pcs S a = ps
  | [], a, _, h => by
    have h1 : S.data.toList.length ≤ a := by simpa using h
    have h2 : S.data.toList.length = S.size := by simp
    exact pcs_n (fun q => by omega)
  | p :: r, a, hp, h => by
    have h8 := hp p (by simp)
    rw [List.flatMap_cons] at h
    have hsz : S.data.toList.length = S.size := by simp
    have hpl : p.data.toList.length = p.size := by simp
    have hlen := congrArg List.length h
    rw [List.length_drop, List.length_append, hsz] at hlen
    have hpc : (pcL p).length = p.size + 1 := by unfold pcL; rw [List.length_cons, hpl]
    have ha : a < S.size := by omega
    have hn : pcN S a = p.size := by
      have h0 := congrArg (fun q : List UInt8 => q[0]?) h
      simp only [List.getElem?_drop, Nat.add_zero] at h0
      unfold pcN
      rw [Array.getD_eq_getD_getElem?, ← Array.getElem?_toList, h0]
      unfold pcL
      simp only [List.cons_append, List.getElem?_cons_zero, Option.getD_some]
      rw [UInt8.toNat_ofNat_of_lt' (by show p.size < 256; omega)]
    have hd1 : S.data.toList.drop (a + 1) = p.data.toList ++ r.flatMap pcL := by
      rw [← List.drop_drop, h]; unfold pcL; simp
    have hx : S.extract (a + 1) (a + 1 + p.size) = p := by
      apply ByteArray.ext; apply Array.ext'
      rw [ByteArray.data_extract, Array.toList_extract, List.extract_eq_take_drop, hd1, show a + 1 + p.size - (a + 1) = p.size by omega, ← hpl, List.take_left]
    have hd2 : S.data.toList.drop (a + 1 + p.size) = r.flatMap pcL := by
      rw [← List.drop_drop, hd1, ← hpl, List.drop_left]
    rw [pcs_y ⟨ha, by rw [hn]; omega⟩, hn, hx, pcs_list S r _ (fun q hq => hp q (by simp [hq])) hd2]
theorem stepsR_list {ps : List ByteArray} (hp : ∀ p ∈ ps, p.size ≤ 255) : stepsR ⟨(ps.flatMap pcL).toArray⟩ = ps.filterMap evR := by
  unfold stepsR; rw [pcs_list _ ps 0 hp (by simp)]
theorem allE_all : ∀ {l : List EvD}, allE l = 0 → ∀ e ∈ l, oneE e = 0
  | [], _, e, he => by cases he
  | x :: r, h, e, he => by
    unfold allE at h
    split at h
    · rename_i q; exact absurd h q
    · rename_i q
      rcases List.mem_cons.1 he with rfl | he
      · omega
      · exact allE_all h e he
theorem allE_of : ∀ {l : List EvD}, (∀ e ∈ l, oneE e = 0) → allE l = 0
  | [], _ => rfl
  | x :: r, h => by
    unfold allE; rw [if_neg (by have := h x (by simp); omega)]; exact allE_of fun e he => h e (by simp [he])
def tsE (e : EvD) : Prop := 0 ≤ e.at_ ∧ e.at_ < 18446744073709551616
theorem one_read {e : EvD} (h : oneE e = 0) (ht : tsE e) : evR (oneB e) = some (cleanE e) := by
  have hr : rngE e := by apply Classical.byContradiction; intro q; rw [(oneE_5 q).1] at h; omega
  have hl : ¬ (evB e).length > 255 := fun q => by rw [(oneE_3 hr q).1] at h; omega
  rw [(oneE_0 hr hl).2]; exact evR_put hr ht (by omega)
theorem allB_pcs (l : List EvD) : allB l = (l.map oneB).flatMap pcL := by
  induction l with
  | nil => rfl
  | cons e r ih => unfold allB at ih ⊢; rw [List.flatMap_cons, List.map_cons, List.flatMap_cons, ← ih]; rfl
theorem map_read : ∀ {l : List EvD}, (∀ e ∈ l, oneE e = 0) → (∀ e ∈ l, tsE e) → (l.map oneB).filterMap evR = l.map cleanE
  | [], _, _ => rfl
  | e :: r, h, ht => by
    rw [List.map_cons, List.filterMap_cons, one_read (h e (by simp)) (ht e (by simp)), map_read (fun q hq => h q (by simp [hq])) (fun q hq => ht q (by simp [hq])), List.map_cons]
/-- There and back: what is put is read. -/
theorem put_read {l : List EvD} (h : allE l = 0) (ht : ∀ e ∈ l, tsE e) : stepsR (putA l) = l.map cleanE := by
  rw [putA_0 h, allB_pcs, stepsR_list (fun p hp => by obtain ⟨e, _, rfl⟩ := List.mem_map.1 hp; exact oneB_len e), map_read (allE_all h) ht]
theorem steps_ok {S : ByteArray} {e : EvD} (h : e ∈ stepsR S) : oneE e = 0 ∧ cleanE e = e ∧ tsE e ∧ e.ops.length ≤ 100 ∧ EvS e := by
  obtain ⟨p, hp, hr⟩ := List.mem_filterMap.1 h
  have h8 := (pcs_mem S S.size 0 (by omega)).2 p hp
  obtain ⟨h1, h2, h3, h4⟩ := evR_back hr
  have hl : (evB e).length ≤ 255 := by rw [h1]; simpa using h8
  have ho : oneE e = 0 := (oneE_0 h2 (by omega)).1
  by_cases hk : e.k = 0
  · have hb : (evB e).length = (hedB e ++ askB e).length := by rw [show evB e = _ from if_pos hk]
    unfold askB txB at hb; simp only [List.length_append] at hb
    have e1 : e.ky.data.toList.length = e.ky.size := by simp
    have e2 : e.tt.data.toList.length = e.tt.size := by simp
    obtain ⟨l1, l2⟩ := putOs_len1 e.ops
    have l3 := putOs_len3 e.ops
    exact ⟨ho, h3, h4, by omega, ⟨h4, by omega, by omega, fun o hm => by have := l2 o hm; omega⟩⟩
  · have hz : e = zeD e.k e.nd e.n := by rw [← show cleanE e = zeD e.k e.nd e.n from if_neg hk]; exact h3.symm
    refine ⟨ho, h3, h4, ?_, ?_⟩
    · rw [hz]; show (0 : Nat) ≤ 100; omega
    · rw [hz]; exact ⟨⟨Int.le_refl _, (by decide : (0 : Int) < 18446744073709551616)⟩, by show (0 : Nat) ≤ _; omega, by show (0 : Nat) ≤ _; omega, fun o hm => by cases hm⟩
theorem evB_len3 (e : EvD) : 3 ≤ (evB e).length := by
  have h1 := putL_pos e.k; have h2 := putL_pos e.nd; have h3 := putL_pos e.n
  unfold evB; split <;> simp only [hedB, List.length_append] <;> omega
theorem steps_len (S : ByteArray) : ∀ (k a : Nat), S.size - a ≤ k → 4 * ((pcs S a).filterMap evR).length ≤ S.size - a
  | 0, a, h => by rw [pcs_n (fun q => by omega)]; simp
  | k + 1, a, h => by
    by_cases q : a < S.size ∧ pcN S a < S.size - a
    · have ih := steps_len S k (a + 1 + pcN S a) (by omega)
      rw [pcs_y q, List.filterMap_cons]
      split
      · omega
      · rename_i e he
        have h3 := evB_len3 e
        have h4 := congrArg List.length (evR_back he).1
        have h5 : (S.extract (a + 1) (a + 1 + pcN S a)).data.toList.length = (S.extract (a + 1) (a + 1 + pcN S a)).size := by rw [Array.length_toList]; rfl
        rw [ByteArray.size_extract] at h5
        rw [List.length_cons]; omega
    · rw [pcs_n q]; simp
theorem stepsR_len (S : ByteArray) : 4 * (stepsR S).length ≤ S.size := by have := steps_len S S.size 0 (by omega); unfold stepsR; omega
theorem putA_len (l : List EvD) : (putA l).size ≤ 256 * l.length := by
  have h : ∀ l : List EvD, (allB l).length ≤ 256 * l.length := fun l => by
    induction l with
    | nil => simp [allB]
    | cons x r ih =>
      have h2 := oneB_len x
      have h3 : (oneB x).data.toList.length = (oneB x).size := by simp
      simp only [allB, pcB, List.flatMap_cons, List.length_append, List.length_cons] at ih ⊢; omega
  by_cases q : allE l = 0
  · rw [putA_0 q]; show (allB l).toArray.size ≤ _; simp only [List.size_toArray]; exact h l
  · rw [putA_n q]; show (0 : Nat) ≤ _; omega
end Go.Proofs.Ytdgboikkgeioeaa

/- The document's read. Conditions: none. -/
namespace Go.Proofs.Ytdgboikkgeioeaa
open Go.RowKit Go.PlainAid
set_option linter.unusedVariables false
set_option linter.unusedSimpArgs false


theorem T1_no {s : ByteArray} {k nd n ak an am at_ a x a1 x1 a2 x2 c r : Int} {ky tt : ByteArray} {l : List OpT} {i : Nat} (h : numR s a x 255 = (c, a1, x1)) (hR : sdN s i ([], a1, x1) = (l, a2, x2)) (hr : endV s a2.toNat x2 = r) (hc : (i : Int) ≤ c) (hs : x2 ≠ 0 ∨ c ≤ i) (hz : ¬ r = 0) : T1 s k nd n ak an am at_ ky tt a x = none := by
  by_cases hx : x2 = 0
  · rw [T1_at h hR (by rcases hs with hs | hs; exact absurd hx hs; omega)]; exact T0_n hr hz
  · unfold T1; rw [h]; refine T0_bad ?_
    show (sdN s c.toNat ([], a1, x1)).2.2 ≠ 0
    have key : ∀ m : Nat, i ≤ m → (sdN s m ([], a1, x1)).2.2 = x2 := fun m hm => by
      induction m with
      | zero => have : i = 0 := by omega
                subst this; rw [hR]
      | succ m ih =>
        by_cases e : i = m + 1
        · rw [← e, hR]
        · have ih := ih (by omega)
          show (sdStep s (sdN s m ([], a1, x1))).2.2 = x2
          have h1 : (sdN s m ([], a1, x1)).2.2 ≠ 0 := by rw [ih]; exact hx
          simp only [sdStep]; rw [textR_err h1, flagR_err h1, textR_err h1]; exact ih
    rw [key c.toNat (by omega)]; exact hx
theorem T1_end {s : ByteArray} {k nd n ak an am at_ a x a1 x1 a2 x2 c r : Int} {ky tt : ByteArray} {l : List OpT} {i : Nat} (h : numR s a x 255 = (c, a1, x1)) (hR : sdN s i ([], a1, x1) = (l, a2, x2)) (hr : endV s a2.toNat x2 = r) (hc : (i : Int) ≤ c) (hs : x2 ≠ 0 ∨ c ≤ i) (hz : r = 0) : T1 s k nd n ak an am at_ ky tt a x = some ⟨k, nd, n, ak, an, ky, tt, at_, am, l⟩ := by
  have hx : x2 = 0 := by
    apply Classical.byContradiction; intro hx
    rw [← hr] at hz; unfold endV at hz; rw [if_neg hx] at hz; exact hx hz
  rw [T1_at h hR (by rcases hs with hs | hs; exact absurd hx hs; omega)]; exact T0_y hr hz

set_option maxRecDepth 100000 in
set_option maxHeartbeats 3200000 in
theorem rcRead_any (s : ByteArray) (w : World) (hsz : s.size ≤ 9223372036854775807) :
    Calls Try.prog 45 #[.string s] w fun e w' => ∃ (d : EvD) (b : Bool) (u : Value), e = .returned (.tuple #[.agg #[.int .i64 d.k, .int .i64 d.nd, .int .i64 d.n, .int .i64 d.ak, .int .i64 d.an, .string d.ky, .string d.tt, .int .u64 d.at_, .int .i64 d.am, u], .bool b]) ∧ w'.ownsRow w.heap.size 66 3 u d.ops.length (d.ops.flatMap opE) ∧ (if b = true then evR s = some d else evR s = none) ∧ Below w.heap.size w w' := by
 have hB0 := Below.refl w.heap.size w
 refine co_enter (n := 92) Try.func45 rfl rfl rfl [(0, .string s)] rfl (fun a h0 => ?_)
 refine co_seq ?_
 refine co_reg ?_
 refine pw h0 rfl (op_new (v := fun N => pt N 0) (T := 60) (cs := #[.int .i64 0, .int .i64 0, .int .i64 0, .int .i64 0, .int .i64 0, .string (⟨#[]⟩), .string (⟨#[]⟩), .int .u64 0, .int .i64 0, .slice none 0 0]) (by kernel_rfl) (by kernel_rfl) (by kernel_rfl)) ?_; clear h0
 rintro _ w2 a1 ⟨N3, rfl, hN6, hz7, hk5, hg4⟩ h1
 have hz8 := hg4.size
 try dsimp only at h1
 refine pk0 (v := .bool false) h1 rfl fun a9 h9 => ?_; clear h1
 refine pl_nil ?_
 refine co_then ?_
 refine co_seq ?_
 refine co_reg ?_
 refine pk0 (v := .string s) h9 rfl fun a10 h10 => ?_; clear h9
 refine pk0 (v := .agg #[.string s, .int .i64 0, .int .i64 0]) h10 rfl fun a11 h11 => ?_; clear h10
 refine pw h11 rfl (op_new (v := fun N => pt N 0) (T := 137) (cs := #[.string s, .int .i64 0, .int .i64 0]) (by kernel_rfl) (by kernel_rfl) (by kernel_rfl)) ?_; clear h11
 rintro _ w13 a12 ⟨N14, rfl, hN17, hz18, hk16, hg15⟩ h12
 have hz19 := hg15.size
 try dsimp only at h12
 refine pk0 (v := pt N14 0) h12 rfl fun a20 h20 => ?_; clear h12
 refine pl_nil ?_
 refine co_then ?_
 refine co_seq ?_
 refine co_reg ?_
 refine pk0 (v := .agg #[.int .i64 0, .int .i64 0, .int .i64 0, .int .i64 0, .int .i64 0, .string (⟨#[]⟩), .string (⟨#[]⟩), .int .u64 0, .int .i64 0, .slice none 0 0]) h20 rfl fun a21 h21 => ?_; clear h20
 refine pw h21 rfl (op_new (v := fun N => pt N 0) (T := 60) (cs := #[.int .i64 0, .int .i64 0, .int .i64 0, .int .i64 0, .int .i64 0, .string (⟨#[]⟩), .string (⟨#[]⟩), .int .u64 0, .int .i64 0, .slice none 0 0]) (by kernel_rfl) (by kernel_rfl) (by kernel_rfl)) ?_; clear h21
 rintro _ w23 a22 ⟨N24, rfl, hN27, hz28, hk26, hg25⟩ h22
 have hz29 := hg25.size
 try dsimp only at h22
 refine pwD h22 rfl (op_storeN rfl rfl rfl (all_cons rfl (all_cons rfl (all_cons rfl (all_cons rfl (all_cons rfl (all_cons rfl (all_cons rfl (all_cons rfl (all_cons rfl (all_cons rfl all_nil)))))))))) (by kernel_rfl) hk26 rfl) ?_; clear h22
 rintro _ w31 a30 ⟨hk32, hz33, hg34⟩ h30
 have hk32' : Blk w31 N24 60 #[.int .i64 0, .int .i64 0, .int .i64 0, .int .i64 0, .int .i64 0, .string (⟨#[]⟩), .string (⟨#[]⟩), .int .u64 0, .int .i64 0, .slice none 0 0] := hk32; clear hk32
 have hz35 := hg34.size
 refine pl_nil ?_
 refine co_then ?_
 refine co_seq ?_
 refine co_reg ?_
 refine pk0 (v := pt N14 0) h30 rfl fun a36 h36 => ?_; clear h30
 have hk40 := hk16.kept hg25 (by simp)
 have hk41 := hk40.kept hg34 (by simp; omega)
 have ho39 := oxr_of hk41
 refine pw h36 rfl (op_call (args := #[pt N14 0, .int .i64 1073741824]) (R := fun res xw => ∃ (n : Int) (a' e' : Int), res = .int .i64 n ∧ numR s 0 0 1073741824 = (n, a', e') ∧ 0 ≤ n ∧ n ≤ 1073741824 ∧ OXR N14 s a' e' xw ∧ w31.grownBy xw (some N14)) rfl rfl rfl (by kernel_rfl) (by kernel_rfl) (Try.call84 _ _) (oxr_num N14 s 0 0 1073741824 w31 ho39 (by omega) (by omega) (by omega)) (by rintro q x ⟨n, a', e', rfl, h0, k0, k1, h1, h2⟩; exact ⟨_, rfl, n, a', e', rfl, h0, k0, k1, h1, h2⟩)) ?_; clear h36
 rintro _ w38 a37 ⟨n42, a43, e44, rfl, hq45, hn46, hm47, ho48, hg49⟩ h37
 have hz50 := hg49.size
 have hl51 := ho48.lt
 have hT52 := (evR_at hq45)
 refine pk0 (v := pt N24 0) h37 rfl fun a53 h53 => ?_; clear h37
 have hk59 := hk32'.kept hg49 (by simp; omega)
 refine pwD h53 rfl (op_store1 rfl rfl rfl rfl Try.sizeOf3 hk59 rfl) ?_; clear h53
 rintro _ w55 a54 ⟨hk56, hz57, hg58⟩ h54
 have hk56' : Blk w55 N24 60 #[.int .i64 n42, .int .i64 0, .int .i64 0, .int .i64 0, .int .i64 0, .string (⟨#[]⟩), .string (⟨#[]⟩), .int .u64 0, .int .i64 0, .slice none 0 0] := hk56; clear hk56
 have hz60 := hg58.size
 refine pl_nil ?_
 refine co_then ?_
 refine co_seq ?_
 refine co_reg ?_
 refine pk0 (v := pt N14 0) h54 rfl fun a61 h61 => ?_; clear h54
 have ho72 := ho48.at (by omega) hg58
 refine pw h61 rfl (op_call (args := #[pt N14 0, .int .i64 1073741824]) (R := fun res xw => ∃ (n : Int) (a' e' : Int), res = .int .i64 n ∧ numR s a43 e44 1073741824 = (n, a', e') ∧ 0 ≤ n ∧ n ≤ 1073741824 ∧ OXR N14 s a' e' xw ∧ w55.grownBy xw (some N14)) rfl rfl rfl (by kernel_rfl) (by kernel_rfl) (Try.call84 _ _) (oxr_num N14 s a43 e44 1073741824 w55 ho72 (by omega) (by omega) (by omega)) (by rintro q x ⟨n, a', e', rfl, h0, k0, k1, h1, h2⟩; exact ⟨_, rfl, n, a', e', rfl, h0, k0, k1, h1, h2⟩)) ?_; clear h61
 rintro _ w63 a62 ⟨n64, a65, e66, rfl, hq67, hn68, hm69, ho70, hg71⟩ h62
 have hz73 := hg71.size
 have hl74 := ho70.lt
 have hT75 := (hT52.trans (T10_at hq67))
 refine pk0 (v := pt N24 1) h62 rfl fun a76 h76 => ?_; clear h62
 have hk82 := hk56'.kept hg71 (by simp; omega)
 refine pwD h76 rfl (op_store1 rfl rfl rfl rfl Try.sizeOf3 hk82 rfl) ?_; clear h76
 rintro _ w78 a77 ⟨hk79, hz80, hg81⟩ h77
 have hk79' : Blk w78 N24 60 #[.int .i64 n42, .int .i64 n64, .int .i64 0, .int .i64 0, .int .i64 0, .string (⟨#[]⟩), .string (⟨#[]⟩), .int .u64 0, .int .i64 0, .slice none 0 0] := hk79; clear hk79
 have hz83 := hg81.size
 refine pl_nil ?_
 refine co_then ?_
 refine co_seq ?_
 refine co_reg ?_
 refine pk0 (v := pt N14 0) h77 rfl fun a84 h84 => ?_; clear h77
 have ho95 := ho70.at (by omega) hg81
 refine pw h84 rfl (op_call (args := #[pt N14 0, .int .i64 1073741824]) (R := fun res xw => ∃ (n : Int) (a' e' : Int), res = .int .i64 n ∧ numR s a65 e66 1073741824 = (n, a', e') ∧ 0 ≤ n ∧ n ≤ 1073741824 ∧ OXR N14 s a' e' xw ∧ w78.grownBy xw (some N14)) rfl rfl rfl (by kernel_rfl) (by kernel_rfl) (Try.call84 _ _) (oxr_num N14 s a65 e66 1073741824 w78 ho95 (by omega) (by omega) (by omega)) (by rintro q x ⟨n, a', e', rfl, h0, k0, k1, h1, h2⟩; exact ⟨_, rfl, n, a', e', rfl, h0, k0, k1, h1, h2⟩)) ?_; clear h84
 rintro _ w86 a85 ⟨n87, a88, e89, rfl, hq90, hn91, hm92, ho93, hg94⟩ h85
 have hz96 := hg94.size
 have hl97 := ho93.lt
 have hT98 := (hT75.trans (T9_at hq90))
 refine pk0 (v := pt N24 2) h85 rfl fun a99 h99 => ?_; clear h85
 have hk105 := hk79'.kept hg94 (by simp; omega)
 refine pwD h99 rfl (op_store1 rfl rfl rfl rfl Try.sizeOf3 hk105 rfl) ?_; clear h99
 rintro _ w101 a100 ⟨hk102, hz103, hg104⟩ h100
 have hk102' : Blk w101 N24 60 #[.int .i64 n42, .int .i64 n64, .int .i64 n87, .int .i64 0, .int .i64 0, .string (⟨#[]⟩), .string (⟨#[]⟩), .int .u64 0, .int .i64 0, .slice none 0 0] := hk102; clear hk102
 have hz106 := hg104.size
 refine pl_nil ?_
 refine co_then ?_
 refine co_seq ?_
 refine co_seq ?_
 refine co_reg ?_
 refine pk0 (v := pt N14 0) h100 rfl fun a107 h107 => ?_; clear h100
 refine pk0 (v := pt N14 0) h107 rfl fun a108 h108 => ?_; clear h107
 refine pk0 (v := pt N14 2) h108 rfl fun a109 h109 => ?_; clear h108
 have ho110 := ho93.at (by omega) hg104
 refine pk (v := .int .i64 e89) h109 rfl (rn_load1 rfl rfl Try.isAgg3 ho110.re.cell) fun a111 h111 => ?_; clear h109
 refine pk0 (v := .bool (e89 == 0)) h111 rfl fun a112 h112 => ?_; clear h111
 refine pk0 (v := .bool (e89 == 0)) h112 rfl fun a113 h113 => ?_; clear h112
 have hB115 := hb_new hB0 hg4
 have hB116 := hb_new hB115 hg15
 have hB117 := hb_new hB116 hg25
 have hB118 := hb_at hB117 hg34 (by omega)
 have hB119 := hb_at hB118 hg49 (by omega)
 have hB120 := hb_at hB119 hg58 (by omega)
 have hB121 := hb_at hB120 hg71 (by omega)
 have hB122 := hb_at hB121 hg81 (by omega)
 have hB123 := hb_at hB122 hg94 (by omega)
 have hB124 := hb_at hB123 hg104 (by omega)
 have hk125 := hk5.kept hg15 (by simp)
 have hk126 := hk125.kept hg25 (by simp)
 have hk127 := hk126.kept hg34 (by simp; omega)
 have hk128 := hk127.kept hg49 (by simp; omega)
 have hk129 := hk128.kept hg58 (by simp; omega)
 have hk130 := hk129.kept hg71 (by simp; omega)
 have hk131 := hk130.kept hg81 (by simp; omega)
 have hk132 := hk131.kept hg94 (by simp; omega)
 have hk133 := hk132.kept hg104 (by simp; omega)
 cases hc114 : (e89 == 0)
 ·
  rw [hc114] at h113
  have hp134 : ¬ (e89 = 0) := by first | simpa using hc114 | simpa [and_assoc] using hc114
  clear hc114
  refine psk h113 rfl fun a135 h135 => ?_; clear h113
  refine psk h135 rfl fun a136 h136 => ?_; clear h135
  refine psk h136 rfl fun a137 h137 => ?_; clear h136
  refine pk0 (v := .bool false) h137 rfl fun a138 h138 => ?_; clear h137
  refine pl_nil ?_
  refine co_then ?_
  refine co_false h138 rfl ?_
  refine wp_skip ?_
  refine co_then ?_
  refine co_seq ?_
  refine dr_gen (fun x => Below w.heap.size w x ∧ Blk x N24 60 #[.int .i64 n42, .int .i64 n64, .int .i64 n87, .int .i64 0, .int .i64 0, .string (⟨#[]⟩), .string (⟨#[]⟩), .int .u64 0, .int .i64 0, .slice none 0 0]) (by kernel_rfl) (fun w139 hg140 => ?_) (fun w139 hg140 => ?_)
  ·
   have hz141 := hg140.size
   have hB142 := hb_new hB124 hg140
   have hk143 := hk102'.kept hg140 (by simp)
   exact ⟨hB142, hk143⟩
  have hz144 := hg140.size
  have hB145 := hb_new hB124 hg140
  have hk146 := hk102'.kept hg140 (by simp)
  refine dk 0 (v := .agg #[.int .i64 n42, .int .i64 n64, .int .i64 n87, .int .i64 0, .int .i64 0, .string (⟨#[]⟩), .string (⟨#[]⟩), .int .u64 0, .int .i64 0, .slice none 0 0]) h138 rfl rfl ⟨hB145, hk146⟩ (fun x hx => (rn_loadN rfl rfl Try.underlying60 rfl (by kernel_rfl) hx.2.all)) fun a147 h147 => ?_; clear h138
  refine dk0 1 (v := pt N14 0) h147 rfl rfl ⟨hB145, hk146⟩ fun a148 h148 => ?_; clear h147
  have ho154 := ho110.new hg140
  refine d1 2 h148 rfl rfl (op_call (args := #[pt N14 0]) (R := fun res xw => ∃ r : Int, res = .int .i64 r ∧ endV s a88.toNat e89 = r ∧ Below w139.heap.size w139 xw) rfl rfl rfl (by kernel_rfl) (by kernel_rfl) (Try.call88 _ _) (oxr_end N14 s a88 e89 w139 ho154 (by omega)) (by rintro e x ⟨r, rfl, h0, h2⟩; exact ⟨_, rfl, r, rfl, h0, h2⟩)) ?_ ?_; clear h148
  ·
   rintro _ w150 ⟨r151, rfl, hq152, hb153⟩
   have hz155 := hb153.size
   have hB156 := hb_call hB145 hb153
   have hk157 := hk146.below hb153
   exact ⟨hB156, hk157⟩
  rintro _ w150 a149 ⟨r151, rfl, hq152, hb153⟩ h149
  have hz155 := hb153.size
  have hB156 := hb_call hB145 hb153
  have hk157 := hk146.below hb153
  refine dk0 3 (v := .bool (r151 == 0)) h149 rfl rfl ⟨hB156, hk157⟩ fun a158 h158 => ?_; clear h149
  have hk164 := hk133.kept hg140 (by simp)
  have hk165 := hk164.below hb153
  refine d1D 4 h158 rfl rfl (op_storeN rfl rfl rfl (all_cons rfl (all_cons rfl (all_cons rfl (all_cons rfl (all_cons rfl (all_cons rfl (all_cons rfl (all_cons rfl (all_cons rfl (all_cons rfl all_nil)))))))))) (by kernel_rfl) hk165 rfl) ?_ ?_; clear h158
  ·
   rintro _ w160 ⟨hk161, hz162, hg163⟩
   have hk161' : Blk w160 N3 60 #[.int .i64 n42, .int .i64 n64, .int .i64 n87, .int .i64 0, .int .i64 0, .string (⟨#[]⟩), .string (⟨#[]⟩), .int .u64 0, .int .i64 0, .slice none 0 0] := hk161; clear hk161
   have hz166 := hg163.size
   have hB167 := hb_at hB156 hg163 (by omega)
   have hk168 := hk157.kept hg163 (by simp; omega)
   exact ⟨hB167, hk168⟩
  rintro _ w160 a159 ⟨hk161, hz162, hg163⟩ h159
  have hk161' : Blk w160 N3 60 #[.int .i64 n42, .int .i64 n64, .int .i64 n87, .int .i64 0, .int .i64 0, .string (⟨#[]⟩), .string (⟨#[]⟩), .int .u64 0, .int .i64 0, .slice none 0 0] := hk161; clear hk161
  have hz166 := hg163.size
  have hB167 := hb_at hB156 hg163 (by omega)
  have hk168 := hk157.kept hg163 (by simp; omega)
  refine dk0 5 (v := .bool (r151 == 0)) h159 rfl rfl ⟨hB167, hk168⟩ fun a169 h169 => ?_; clear h159
  refine dr_done (by kernel_rfl) ?_
  refine co_then ?_
  refine wp_ret ?_
  refine co_retC1 (Q := fun _ _ _ => True) h169 rfl rfl rfl hk161' Try.underlying60 rfl (by kernel_rfl) ?_
  have hpo : if (r151 == 0) = true then evR s = some ⟨n42, n64, n87, 0, 0, ⟨#[]⟩, ⟨#[]⟩, 0, 0, []⟩ else evR s = none := by
    by_cases hz9 : r151 = 0
    · rw [if_pos (by simp [hz9])]; exact hT98.trans ((T8_n (by omega)).trans (T0_y hq152 hz9))
    · rw [if_neg (by simp [hz9])]; exact hT98.trans ((T8_n (by omega)).trans (T0_n hq152 hz9))
  exact ⟨⟨n42, n64, n87, 0, 0, ⟨#[]⟩, ⟨#[]⟩, 0, 0, []⟩, _, _, rfl, (row_nilL _ _ _ _ _), hpo, hB167⟩
 ·
  rw [hc114] at h113
  have hp170 : e89 = 0 := by first | simpa using hc114 | simpa [and_assoc] using hc114
  clear hc114
  refine pk0 (v := pt N24 0) h113 rfl fun a171 h171 => ?_; clear h113
  refine pk (v := .int .i64 n42) h171 rfl (rn_load1 rfl rfl Try.isAgg3 (hk102'.cell rfl)) fun a172 h172 => ?_; clear h171
  refine pk0 (v := .bool (n42 == 0)) h172 rfl fun a173 h173 => ?_; clear h172
  refine pk0 (v := .bool (n42 == 0)) h173 rfl fun a174 h174 => ?_; clear h173
  refine pl_nil ?_
  refine co_then ?_
  cases hc175 : (n42 == 0)
  ·
   rw [hc175] at h174
   have hp176 : ¬ (n42 = 0) := by first | simpa using hc175 | simpa [and_assoc] using hc175
   clear hc175
   refine co_false h174 rfl ?_
   refine wp_skip ?_
   refine co_then ?_
   refine co_seq ?_
   refine dr_gen (fun x => Below w.heap.size w x ∧ Blk x N24 60 #[.int .i64 n42, .int .i64 n64, .int .i64 n87, .int .i64 0, .int .i64 0, .string (⟨#[]⟩), .string (⟨#[]⟩), .int .u64 0, .int .i64 0, .slice none 0 0]) (by kernel_rfl) (fun w177 hg178 => ?_) (fun w177 hg178 => ?_)
   ·
    have hz179 := hg178.size
    have hB180 := hb_new hB124 hg178
    have hk181 := hk102'.kept hg178 (by simp)
    exact ⟨hB180, hk181⟩
   have hz182 := hg178.size
   have hB183 := hb_new hB124 hg178
   have hk184 := hk102'.kept hg178 (by simp)
   refine dk 0 (v := .agg #[.int .i64 n42, .int .i64 n64, .int .i64 n87, .int .i64 0, .int .i64 0, .string (⟨#[]⟩), .string (⟨#[]⟩), .int .u64 0, .int .i64 0, .slice none 0 0]) h174 rfl rfl ⟨hB183, hk184⟩ (fun x hx => (rn_loadN rfl rfl Try.underlying60 rfl (by kernel_rfl) hx.2.all)) fun a185 h185 => ?_; clear h174
   refine dk0 1 (v := pt N14 0) h185 rfl rfl ⟨hB183, hk184⟩ fun a186 h186 => ?_; clear h185
   have ho192 := ho110.new hg178
   refine d1 2 h186 rfl rfl (op_call (args := #[pt N14 0]) (R := fun res xw => ∃ r : Int, res = .int .i64 r ∧ endV s a88.toNat e89 = r ∧ Below w177.heap.size w177 xw) rfl rfl rfl (by kernel_rfl) (by kernel_rfl) (Try.call88 _ _) (oxr_end N14 s a88 e89 w177 ho192 (by omega)) (by rintro e x ⟨r, rfl, h0, h2⟩; exact ⟨_, rfl, r, rfl, h0, h2⟩)) ?_ ?_; clear h186
   ·
    rintro _ w188 ⟨r189, rfl, hq190, hb191⟩
    have hz193 := hb191.size
    have hB194 := hb_call hB183 hb191
    have hk195 := hk184.below hb191
    exact ⟨hB194, hk195⟩
   rintro _ w188 a187 ⟨r189, rfl, hq190, hb191⟩ h187
   have hz193 := hb191.size
   have hB194 := hb_call hB183 hb191
   have hk195 := hk184.below hb191
   refine dk0 3 (v := .bool (r189 == 0)) h187 rfl rfl ⟨hB194, hk195⟩ fun a196 h196 => ?_; clear h187
   have hk202 := hk133.kept hg178 (by simp)
   have hk203 := hk202.below hb191
   refine d1D 4 h196 rfl rfl (op_storeN rfl rfl rfl (all_cons rfl (all_cons rfl (all_cons rfl (all_cons rfl (all_cons rfl (all_cons rfl (all_cons rfl (all_cons rfl (all_cons rfl (all_cons rfl all_nil)))))))))) (by kernel_rfl) hk203 rfl) ?_ ?_; clear h196
   ·
    rintro _ w198 ⟨hk199, hz200, hg201⟩
    have hk199' : Blk w198 N3 60 #[.int .i64 n42, .int .i64 n64, .int .i64 n87, .int .i64 0, .int .i64 0, .string (⟨#[]⟩), .string (⟨#[]⟩), .int .u64 0, .int .i64 0, .slice none 0 0] := hk199; clear hk199
    have hz204 := hg201.size
    have hB205 := hb_at hB194 hg201 (by omega)
    have hk206 := hk195.kept hg201 (by simp; omega)
    exact ⟨hB205, hk206⟩
   rintro _ w198 a197 ⟨hk199, hz200, hg201⟩ h197
   have hk199' : Blk w198 N3 60 #[.int .i64 n42, .int .i64 n64, .int .i64 n87, .int .i64 0, .int .i64 0, .string (⟨#[]⟩), .string (⟨#[]⟩), .int .u64 0, .int .i64 0, .slice none 0 0] := hk199; clear hk199
   have hz204 := hg201.size
   have hB205 := hb_at hB194 hg201 (by omega)
   have hk206 := hk195.kept hg201 (by simp; omega)
   refine dk0 5 (v := .bool (r189 == 0)) h197 rfl rfl ⟨hB205, hk206⟩ fun a207 h207 => ?_; clear h197
   refine dr_done (by kernel_rfl) ?_
   refine co_then ?_
   refine wp_ret ?_
   refine co_retC1 (Q := fun _ _ _ => True) h207 rfl rfl rfl hk199' Try.underlying60 rfl (by kernel_rfl) ?_
   have hpo : if (r189 == 0) = true then evR s = some ⟨n42, n64, n87, 0, 0, ⟨#[]⟩, ⟨#[]⟩, 0, 0, []⟩ else evR s = none := by
     by_cases hz9 : r189 = 0
     · rw [if_pos (by simp [hz9])]; exact hT98.trans ((T8_n (by omega)).trans (T0_y hq190 hz9))
     · rw [if_neg (by simp [hz9])]; exact hT98.trans ((T8_n (by omega)).trans (T0_n hq190 hz9))
   exact ⟨⟨n42, n64, n87, 0, 0, ⟨#[]⟩, ⟨#[]⟩, 0, 0, []⟩, _, _, rfl, (row_nilL _ _ _ _ _), hpo, hB205⟩
  ·
   rw [hc175] at h174
   have hp208 : n42 = 0 := by first | simpa using hc175 | simpa [and_assoc] using hc175
   clear hc175
   refine co_true h174 rfl ?_
   refine co_seq ?_
   refine co_reg ?_
   refine pk0 (v := pt N14 0) h174 rfl fun a209 h209 => ?_; clear h174
   have hT212 := hT98.trans (T8_y (by first | rfl | omega) (by omega))
   refine pw h209 rfl (op_call (args := #[pt N14 0, .int .i64 1073741824]) (R := fun res xw => ∃ (n : Int) (a' e' : Int), res = .int .i64 n ∧ numR s a88 e89 1073741824 = (n, a', e') ∧ 0 ≤ n ∧ n ≤ 1073741824 ∧ OXR N14 s a' e' xw ∧ w101.grownBy xw (some N14)) rfl rfl rfl (by kernel_rfl) (by kernel_rfl) (Try.call84 _ _) (oxr_num N14 s a88 e89 1073741824 w101 ho110 (by omega) (by omega) (by omega)) (by rintro q x ⟨n, a', e', rfl, h0, k0, k1, h1, h2⟩; exact ⟨_, rfl, n, a', e', rfl, h0, k0, k1, h1, h2⟩)) ?_; clear h209
   rintro _ w211 a210 ⟨n213, a214, e215, rfl, hq216, hn217, hm218, ho219, hg220⟩ h210
   have hz221 := hg220.size
   have hl222 := ho219.lt
   have hT223 := (hT212.trans (T7_at hq216))
   refine pk0 (v := pt N24 3) h210 rfl fun a224 h224 => ?_; clear h210
   refine pk0 (v := pt N24 3) h224 rfl fun a225 h225 => ?_; clear h224
   have hk231 := hk102'.kept hg220 (by simp; omega)
   refine pwD h225 rfl (op_store1 rfl rfl rfl rfl Try.sizeOf3 hk231 rfl) ?_; clear h225
   rintro _ w227 a226 ⟨hk228, hz229, hg230⟩ h226
   have hk228' : Blk w227 N24 60 #[.int .i64 n42, .int .i64 n64, .int .i64 n87, .int .i64 n213, .int .i64 0, .string (⟨#[]⟩), .string (⟨#[]⟩), .int .u64 0, .int .i64 0, .slice none 0 0] := hk228; clear hk228
   have hz232 := hg230.size
   refine pl_nil ?_
   refine co_then ?_
   refine co_seq ?_
   refine co_reg ?_
   refine pk0 (v := pt N14 0) h226 rfl fun a233 h233 => ?_; clear h226
   have ho244 := ho219.at (by omega) hg230
   refine pw h233 rfl (op_call (args := #[pt N14 0, .int .i64 1073741824]) (R := fun res xw => ∃ (n : Int) (a' e' : Int), res = .int .i64 n ∧ numR s a214 e215 1073741824 = (n, a', e') ∧ 0 ≤ n ∧ n ≤ 1073741824 ∧ OXR N14 s a' e' xw ∧ w227.grownBy xw (some N14)) rfl rfl rfl (by kernel_rfl) (by kernel_rfl) (Try.call84 _ _) (oxr_num N14 s a214 e215 1073741824 w227 ho244 (by omega) (by omega) (by omega)) (by rintro q x ⟨n, a', e', rfl, h0, k0, k1, h1, h2⟩; exact ⟨_, rfl, n, a', e', rfl, h0, k0, k1, h1, h2⟩)) ?_; clear h233
   rintro _ w235 a234 ⟨n236, a237, e238, rfl, hq239, hn240, hm241, ho242, hg243⟩ h234
   have hz245 := hg243.size
   have hl246 := ho242.lt
   have hT247 := (hT223.trans (T6_at hq239))
   refine pk0 (v := pt N24 3) h234 rfl fun a248 h248 => ?_; clear h234
   refine pk0 (v := pt N24 4) h248 rfl fun a249 h249 => ?_; clear h248
   have hk255 := hk228'.kept hg243 (by simp; omega)
   refine pwD h249 rfl (op_store1 rfl rfl rfl rfl Try.sizeOf3 hk255 rfl) ?_; clear h249
   rintro _ w251 a250 ⟨hk252, hz253, hg254⟩ h250
   have hk252' : Blk w251 N24 60 #[.int .i64 n42, .int .i64 n64, .int .i64 n87, .int .i64 n213, .int .i64 n236, .string (⟨#[]⟩), .string (⟨#[]⟩), .int .u64 0, .int .i64 0, .slice none 0 0] := hk252; clear hk252
   have hz256 := hg254.size
   refine pl_nil ?_
   refine co_then ?_
   refine co_seq ?_
   refine co_reg ?_
   refine pk0 (v := pt N14 0) h250 rfl fun a257 h257 => ?_; clear h250
   have ho268 := ho242.at (by omega) hg254
   refine pw h257 rfl (op_call (args := #[pt N14 0, .int .i64 1073741824]) (R := fun res xw => ∃ (n : Int) (a' e' : Int), res = .int .i64 n ∧ numR s a237 e238 1073741824 = (n, a', e') ∧ 0 ≤ n ∧ n ≤ 1073741824 ∧ OXR N14 s a' e' xw ∧ w251.grownBy xw (some N14)) rfl rfl rfl (by kernel_rfl) (by kernel_rfl) (Try.call84 _ _) (oxr_num N14 s a237 e238 1073741824 w251 ho268 (by omega) (by omega) (by omega)) (by rintro q x ⟨n, a', e', rfl, h0, k0, k1, h1, h2⟩; exact ⟨_, rfl, n, a', e', rfl, h0, k0, k1, h1, h2⟩)) ?_; clear h257
   rintro _ w259 a258 ⟨n260, a261, e262, rfl, hq263, hn264, hm265, ho266, hg267⟩ h258
   have hz269 := hg267.size
   have hl270 := ho266.lt
   have hT271 := (hT247.trans (T5_at hq263))
   refine pk0 (v := pt N24 3) h258 rfl fun a272 h272 => ?_; clear h258
   refine pk0 (v := pt N24 8) h272 rfl fun a273 h273 => ?_; clear h272
   have hk279 := hk252'.kept hg267 (by simp; omega)
   refine pwD h273 rfl (op_store1 rfl rfl rfl rfl Try.sizeOf3 hk279 rfl) ?_; clear h273
   rintro _ w275 a274 ⟨hk276, hz277, hg278⟩ h274
   have hk276' : Blk w275 N24 60 #[.int .i64 n42, .int .i64 n64, .int .i64 n87, .int .i64 n213, .int .i64 n236, .string (⟨#[]⟩), .string (⟨#[]⟩), .int .u64 0, .int .i64 n260, .slice none 0 0] := hk276; clear hk276
   have hz280 := hg278.size
   refine pl_nil ?_
   refine co_then ?_
   refine co_seq ?_
   refine co_reg ?_
   refine pk0 (v := pt N14 0) h274 rfl fun a281 h281 => ?_; clear h274
   have ho292 := ho266.at (by omega) hg278
   refine pw h281 rfl (op_call (args := #[pt N14 0]) (R := fun res xw => ∃ (n : Int) (a' e' : Int), res = .int .u64 n ∧ bigR s a261 e262 = (n, a', e') ∧ 0 ≤ n ∧ n < 18446744073709551616 ∧ OXR N14 s a' e' xw ∧ w275.grownBy xw (some N14)) rfl rfl rfl (by kernel_rfl) (by kernel_rfl) (Try.call85 _ _) (oxr_big N14 s a261 e262 w275 ho292 (by omega)) (by rintro q x ⟨n, a', e', rfl, h0, k0, k1, h1, h2⟩; exact ⟨_, rfl, n, a', e', rfl, h0, k0, k1, h1, h2⟩)) ?_; clear h281
   rintro _ w283 a282 ⟨n284, a285, e286, rfl, hq287, hn288, hm289, ho290, hg291⟩ h282
   have hz293 := hg291.size
   have hl294 := ho290.lt
   have hT295 := (hT271.trans (T4_at hq287))
   refine pk0 (v := pt N24 3) h282 rfl fun a296 h296 => ?_; clear h282
   refine pk0 (v := pt N24 7) h296 rfl fun a297 h297 => ?_; clear h296
   have hk303 := hk276'.kept hg291 (by simp; omega)
   refine pwD h297 rfl (op_store1 rfl rfl rfl rfl Try.sizeOf23 hk303 rfl) ?_; clear h297
   rintro _ w299 a298 ⟨hk300, hz301, hg302⟩ h298
   have hk300' : Blk w299 N24 60 #[.int .i64 n42, .int .i64 n64, .int .i64 n87, .int .i64 n213, .int .i64 n236, .string (⟨#[]⟩), .string (⟨#[]⟩), .int .u64 n284, .int .i64 n260, .slice none 0 0] := hk300; clear hk300
   have hz304 := hg302.size
   refine pl_nil ?_
   refine co_then ?_
   refine co_seq ?_
   refine co_reg ?_
   refine pk0 (v := pt N14 0) h298 rfl fun a305 h305 => ?_; clear h298
   have ho316 := ho290.at (by omega) hg302
   refine pw h305 rfl (op_call (args := #[pt N14 0, .int .i64 255]) (R := fun res xw => ∃ (n : ByteArray) (a' e' : Int), res = .string n ∧ textR s a285 e286 255 = (n, a', e') ∧ (n.size : Int) ≤ 255 ∧ OXR N14 s a' e' xw ∧ w299.grownBy xw (some N14)) rfl rfl rfl (by kernel_rfl) (by kernel_rfl) (Try.call86 _ _) (oxr_text N14 s a285 e286 255 w299 ho316 (by omega) (by omega) (by omega)) (by rintro q x ⟨n, a', e', rfl, h0, k0, h1, h2⟩; exact ⟨_, rfl, n, a', e', rfl, h0, k0, h1, h2⟩)) ?_; clear h305
   rintro _ w307 a306 ⟨n308, a309, e310, rfl, hq311, hn312, ho314, hg315⟩ h306
   have hz317 := hg315.size
   have hl318 := ho314.lt
   have hT319 := (hT295.trans (T3_at hq311))
   refine pk0 (v := pt N24 3) h306 rfl fun a320 h320 => ?_; clear h306
   refine pk0 (v := pt N24 5) h320 rfl fun a321 h321 => ?_; clear h320
   have hk327 := hk300'.kept hg315 (by simp; omega)
   refine pwD h321 rfl (op_store1 rfl rfl rfl rfl Try.sizeOf9 hk327 rfl) ?_; clear h321
   rintro _ w323 a322 ⟨hk324, hz325, hg326⟩ h322
   have hk324' : Blk w323 N24 60 #[.int .i64 n42, .int .i64 n64, .int .i64 n87, .int .i64 n213, .int .i64 n236, .string n308, .string (⟨#[]⟩), .int .u64 n284, .int .i64 n260, .slice none 0 0] := hk324; clear hk324
   have hz328 := hg326.size
   refine pl_nil ?_
   refine co_then ?_
   refine co_seq ?_
   refine co_reg ?_
   refine pk0 (v := pt N14 0) h322 rfl fun a329 h329 => ?_; clear h322
   have ho340 := ho314.at (by omega) hg326
   refine pw h329 rfl (op_call (args := #[pt N14 0, .int .i64 255]) (R := fun res xw => ∃ (n : ByteArray) (a' e' : Int), res = .string n ∧ textR s a309 e310 255 = (n, a', e') ∧ (n.size : Int) ≤ 255 ∧ OXR N14 s a' e' xw ∧ w323.grownBy xw (some N14)) rfl rfl rfl (by kernel_rfl) (by kernel_rfl) (Try.call86 _ _) (oxr_text N14 s a309 e310 255 w323 ho340 (by omega) (by omega) (by omega)) (by rintro q x ⟨n, a', e', rfl, h0, k0, h1, h2⟩; exact ⟨_, rfl, n, a', e', rfl, h0, k0, h1, h2⟩)) ?_; clear h329
   rintro _ w331 a330 ⟨n332, a333, e334, rfl, hq335, hn336, ho338, hg339⟩ h330
   have hz341 := hg339.size
   have hl342 := ho338.lt
   have hT343 := (hT319.trans (T2_at hq335))
   refine pk0 (v := pt N24 3) h330 rfl fun a344 h344 => ?_; clear h330
   refine pk0 (v := pt N24 6) h344 rfl fun a345 h345 => ?_; clear h344
   have hk351 := hk324'.kept hg339 (by simp; omega)
   refine pwD h345 rfl (op_store1 rfl rfl rfl rfl Try.sizeOf9 hk351 rfl) ?_; clear h345
   rintro _ w347 a346 ⟨hk348, hz349, hg350⟩ h346
   have hk348' : Blk w347 N24 60 #[.int .i64 n42, .int .i64 n64, .int .i64 n87, .int .i64 n213, .int .i64 n236, .string n308, .string n332, .int .u64 n284, .int .i64 n260, .slice none 0 0] := hk348; clear hk348
   have hz352 := hg350.size
   refine pl_nil ?_
   refine co_then ?_
   refine co_seq ?_
   refine co_reg ?_
   refine pk0 (v := pt N14 0) h346 rfl fun a353 h353 => ?_; clear h346
   have ho364 := ho338.at (by omega) hg350
   refine pw h353 rfl (op_call (args := #[pt N14 0, .int .i64 255]) (R := fun res xw => ∃ (n : Int) (a' e' : Int), res = .int .i64 n ∧ numR s a333 e334 255 = (n, a', e') ∧ 0 ≤ n ∧ n ≤ 255 ∧ OXR N14 s a' e' xw ∧ w347.grownBy xw (some N14)) rfl rfl rfl (by kernel_rfl) (by kernel_rfl) (Try.call84 _ _) (oxr_num N14 s a333 e334 255 w347 ho364 (by omega) (by omega) (by omega)) (by rintro q x ⟨n, a', e', rfl, h0, k0, k1, h1, h2⟩; exact ⟨_, rfl, n, a', e', rfl, h0, k0, k1, h1, h2⟩)) ?_; clear h353
   rintro _ w355 a354 ⟨n356, a357, e358, rfl, hq359, hn360, hm361, ho362, hg363⟩ h354
   have hz365 := hg363.size
   have hl366 := ho362.lt
   refine pk0 (v := .int .i64 n356) h354 rfl fun a367 h367 => ?_; clear h354
   refine pl_nil ?_
   refine co_then ?_
   refine co_seq ?_
   refine co_reg ?_
   refine pk0 (v := .int .i64 0) h367 rfl fun a368 h368 => ?_; clear h367
   refine pl_nil ?_
   refine co_then ?_
   refine wp_block ?_
   have h369 : Slots 92 [(2, pt N3 0), (4, pt N14 0), (5, pt N24 0), (6, .int .i64 n356), (7, .int .i64 0)] _ := h368.sub ⟨rfl, rfl, rfl, rfl, rfl, trivial⟩; clear h368
   refine co_loop (fun mm a x => ∃ (i : Nat) (u : Value) (ls : List OpT) (ps : Int) (er : Int), Slots 92 [(2, pt N3 0), (4, pt N14 0), (5, pt N24 0), (6, .int .i64 n356), (7, .int .i64 ((i : Nat) : Int))] a ∧ mm = n356.toNat - i ∧ (((i : Nat) : Int) ≤ n356) ∧ (ls.length = i) ∧ (sdN s i ([], a357, e358) = (ls, ps, er)) ∧ Blk x N24 60 #[.int .i64 n42, .int .i64 n64, .int .i64 n87, .int .i64 n213, .int .i64 n236, .string n308, .string n332, .int .u64 n284, .int .i64 n260, u] ∧ OXR N14 s ps er x ∧ x.ownsRow (N24 + 1) 66 3 u ls.length (ls.flatMap opE) ∧ Below w.heap.size w x ∧ Blk x N3 60 #[.int .i64 0, .int .i64 0, .int .i64 0, .int .i64 0, .int .i64 0, .string (⟨#[]⟩), .string (⟨#[]⟩), .int .u64 0, .int .i64 0, .slice none 0 0]) (n356.toNat - 0) ?_ ?_
   have hk370 := hk348'.kept hg363 (by simp; omega)
   have hB371 := hb_at hB124 hg220 (by omega)
   have hB372 := hb_at hB371 hg230 (by omega)
   have hB373 := hb_at hB372 hg243 (by omega)
   have hB374 := hb_at hB373 hg254 (by omega)
   have hB375 := hb_at hB374 hg267 (by omega)
   have hB376 := hb_at hB375 hg278 (by omega)
   have hB377 := hb_at hB376 hg291 (by omega)
   have hB378 := hb_at hB377 hg302 (by omega)
   have hB379 := hb_at hB378 hg315 (by omega)
   have hB380 := hb_at hB379 hg326 (by omega)
   have hB381 := hb_at hB380 hg339 (by omega)
   have hB382 := hb_at hB381 hg350 (by omega)
   have hB383 := hb_at hB382 hg363 (by omega)
   have hk384 := hk133.kept hg220 (by simp; omega)
   have hk385 := hk384.kept hg230 (by simp; omega)
   have hk386 := hk385.kept hg243 (by simp; omega)
   have hk387 := hk386.kept hg254 (by simp; omega)
   have hk388 := hk387.kept hg267 (by simp; omega)
   have hk389 := hk388.kept hg278 (by simp; omega)
   have hk390 := hk389.kept hg291 (by simp; omega)
   have hk391 := hk390.kept hg302 (by simp; omega)
   have hk392 := hk391.kept hg315 (by simp; omega)
   have hk393 := hk392.kept hg326 (by simp; omega)
   have hk394 := hk393.kept hg339 (by simp; omega)
   have hk395 := hk394.kept hg350 (by simp; omega)
   have hk396 := hk395.kept hg363 (by simp; omega)
   · exact ⟨0, (.slice none 0 0), [], a357, e358, h369.sub ⟨rfl, rfl, rfl, rfl, (slot_eq rfl (congrArg (Value.int .i64) (by first | rfl | omega))), trivial⟩, rfl, by omega, by first | rfl | (simp; omega), by first | rfl | exact hR', hk370, ho362, (row_nilL _ _ _ _ _), hB383, hk396⟩
   · rintro k397 a398 w399 ⟨i, u, ls, ps, er, h398, rfl, hi400, hi401, hi402, hf403, hf404, hf405, hB406, hk407⟩
     have hz408 := hB406.size
     have hl409 := hk407.lt
     have hl410 := hf403.lt
     have hl411 := hf404.lt
     have hR : sdN s i ([], a357, e358) = (ls, ps, er) := by assumption
     refine co_seq ?_
     refine co_seq ?_
     refine co_reg ?_
     refine pk0 (v := .int .i64 ((i : Nat) : Int)) h398 rfl fun a412 h412 => ?_; clear h398
     refine pk0 (v := .int .i64 n356) h412 rfl fun a413 h413 => ?_; clear h412
     refine pk0 (v := .bool (decide (((i : Nat) : Int) < n356))) h413 rfl fun a414 h414 => ?_; clear h413
     refine pk0 (v := .bool (decide (((i : Nat) : Int) < n356))) h414 rfl fun a415 h415 => ?_; clear h414
     cases hc416 : (decide (((i : Nat) : Int) < n356))
     ·
      rw [hc416] at h415
      have hp417 : ¬ (((i : Nat) : Int) < n356) := of_decide_eq_false hc416
      clear hc416
      refine psk h415 rfl fun a418 h418 => ?_; clear h415
      refine psk h418 rfl fun a419 h419 => ?_; clear h418
      refine psk h419 rfl fun a420 h420 => ?_; clear h419
      refine psk h420 rfl fun a421 h421 => ?_; clear h420
      refine psk h421 rfl fun a422 h422 => ?_; clear h421
      refine pk0 (v := .bool false) h422 rfl fun a423 h423 => ?_; clear h422
      refine pl_nil ?_
      refine co_then ?_
      refine co_false h423 rfl ?_
      refine wp_exit ?_
      refine co_thenX ?_
      refine co_thenX ?_
      refine co_blockX ?_
      refine co_then ?_
      refine co_seq ?_
      refine dr_gen (fun x => Below w.heap.size w x ∧ Blk x N24 60 #[.int .i64 n42, .int .i64 n64, .int .i64 n87, .int .i64 n213, .int .i64 n236, .string n308, .string n332, .int .u64 n284, .int .i64 n260, u]) (by kernel_rfl) (fun w424 hg425 => ?_) (fun w424 hg425 => ?_)
      ·
       have hz426 := hg425.size
       have hB427 := hb_new hB406 hg425
       have hk428 := hf403.kept hg425 (by simp)
       exact ⟨hB427, hk428⟩
      have hz429 := hg425.size
      have hB430 := hb_new hB406 hg425
      have hk431 := hf403.kept hg425 (by simp)
      refine dk 0 (v := .agg #[.int .i64 n42, .int .i64 n64, .int .i64 n87, .int .i64 n213, .int .i64 n236, .string n308, .string n332, .int .u64 n284, .int .i64 n260, u]) h423 rfl rfl ⟨hB430, hk431⟩ (fun x hx => (rn_loadN rfl rfl Try.underlying60 rfl (by kernel_rfl) hx.2.all)) fun a432 h432 => ?_; clear h423
      refine dk0 1 (v := pt N14 0) h432 rfl rfl ⟨hB430, hk431⟩ fun a433 h433 => ?_; clear h432
      have ho439 := hf404.new hg425
      refine d1 2 h433 rfl rfl (op_call (args := #[pt N14 0]) (R := fun res xw => ∃ r : Int, res = .int .i64 r ∧ endV s ps.toNat er = r ∧ Below w424.heap.size w424 xw) rfl rfl rfl (by kernel_rfl) (by kernel_rfl) (Try.call88 _ _) (oxr_end N14 s ps er w424 ho439 (by omega)) (by rintro e x ⟨r, rfl, h0, h2⟩; exact ⟨_, rfl, r, rfl, h0, h2⟩)) ?_ ?_; clear h433
      ·
       rintro _ w435 ⟨r436, rfl, hq437, hb438⟩
       have hz440 := hb438.size
       have hB441 := hb_call hB430 hb438
       have hk442 := hk431.below hb438
       exact ⟨hB441, hk442⟩
      rintro _ w435 a434 ⟨r436, rfl, hq437, hb438⟩ h434
      have hz440 := hb438.size
      have hB441 := hb_call hB430 hb438
      have hk442 := hk431.below hb438
      refine dk0 3 (v := .bool (r436 == 0)) h434 rfl rfl ⟨hB441, hk442⟩ fun a443 h443 => ?_; clear h434
      have hr449 := row_kept_new hf405 hg425
      have hr450 := row_kept_new hr449 (below_grown hb438)
      have hk451 := hk407.kept hg425 (by simp)
      have hk452 := hk451.below hb438
      refine d1D 4 h443 rfl rfl (op_storeN rfl rfl rfl (all_cons rfl (all_cons rfl (all_cons rfl (all_cons rfl (all_cons rfl (all_cons rfl (all_cons rfl (all_cons rfl (all_cons rfl (all_cons (row_one hr450) all_nil)))))))))) (by kernel_rfl) hk452 rfl) ?_ ?_; clear h443
      ·
       rintro _ w445 ⟨hk446, hz447, hg448⟩
       have hk446' : Blk w445 N3 60 #[.int .i64 n42, .int .i64 n64, .int .i64 n87, .int .i64 n213, .int .i64 n236, .string n308, .string n332, .int .u64 n284, .int .i64 n260, u] := hk446; clear hk446
       have hz453 := hg448.size
       have hB454 := hb_at hB441 hg448 (by omega)
       have hk455 := hk442.kept hg448 (by simp; omega)
       exact ⟨hB454, hk455⟩
      rintro _ w445 a444 ⟨hk446, hz447, hg448⟩ h444
      have hk446' : Blk w445 N3 60 #[.int .i64 n42, .int .i64 n64, .int .i64 n87, .int .i64 n213, .int .i64 n236, .string n308, .string n332, .int .u64 n284, .int .i64 n260, u] := hk446; clear hk446
      have hz453 := hg448.size
      have hB454 := hb_at hB441 hg448 (by omega)
      have hk455 := hk442.kept hg448 (by simp; omega)
      refine dk0 5 (v := .bool (r436 == 0)) h444 rfl rfl ⟨hB454, hk455⟩ fun a456 h456 => ?_; clear h444
      refine dr_done (by kernel_rfl) ?_
      refine co_then ?_
      refine wp_ret ?_
      refine co_retC1 (Q := fun _ _ _ => True) h456 rfl rfl rfl hk446' Try.underlying60 rfl (by kernel_rfl) ?_
      have hr457 := row_kept_at hr450 hg448 (row_ne_lt hr450 (by omega))
      have hpo : if (r436 == 0) = true then evR s = some ⟨n42, n64, n87, n213, n236, n308, n332, n284, n260, ls⟩ else evR s = none := by
        by_cases hz9 : r436 = 0
        · rw [if_pos (by simp [hz9])]; exact hT343.trans (T1_end hq359 hR hq437 (by omega) (by omega) hz9)
        · rw [if_neg (by simp [hz9])]; exact hT343.trans (T1_no hq359 hR hq437 (by omega) (by omega) hz9)
      exact ⟨⟨n42, n64, n87, n213, n236, n308, n332, n284, n260, ls⟩, _, _, rfl, (row_lows hr457 (by omega)), hpo, hB454⟩
     ·
      rw [hc416] at h415
      have hp458 : ((i : Nat) : Int) < n356 := of_decide_eq_true hc416
      clear hc416
      refine pk0 (v := pt N14 0) h415 rfl fun a459 h459 => ?_; clear h415
      refine pk0 (v := pt N14 0) h459 rfl fun a460 h460 => ?_; clear h459
      refine pk0 (v := pt N14 2) h460 rfl fun a461 h461 => ?_; clear h460
      refine pk (v := .int .i64 er) h461 rfl (rn_load1 rfl rfl Try.isAgg3 hf404.re.cell) fun a462 h462 => ?_; clear h461
      refine pk0 (v := .bool (er == 0)) h462 rfl fun a463 h463 => ?_; clear h462
      refine pk0 (v := .bool (er == 0)) h463 rfl fun a464 h464 => ?_; clear h463
      refine pl_nil ?_
      refine co_then ?_
      cases hc465 : (er == 0)
      ·
       rw [hc465] at h464
       have hp466 : ¬ (er = 0) := by first | simpa using hc465 | simpa [and_assoc] using hc465
       clear hc465
       refine co_false h464 rfl ?_
       refine wp_exit ?_
       refine co_thenX ?_
       refine co_thenX ?_
       refine co_blockX ?_
       refine co_then ?_
       refine co_seq ?_
       refine dr_gen (fun x => Below w.heap.size w x ∧ Blk x N24 60 #[.int .i64 n42, .int .i64 n64, .int .i64 n87, .int .i64 n213, .int .i64 n236, .string n308, .string n332, .int .u64 n284, .int .i64 n260, u]) (by kernel_rfl) (fun w467 hg468 => ?_) (fun w467 hg468 => ?_)
       ·
        have hz469 := hg468.size
        have hB470 := hb_new hB406 hg468
        have hk471 := hf403.kept hg468 (by simp)
        exact ⟨hB470, hk471⟩
       have hz472 := hg468.size
       have hB473 := hb_new hB406 hg468
       have hk474 := hf403.kept hg468 (by simp)
       refine dk 0 (v := .agg #[.int .i64 n42, .int .i64 n64, .int .i64 n87, .int .i64 n213, .int .i64 n236, .string n308, .string n332, .int .u64 n284, .int .i64 n260, u]) h464 rfl rfl ⟨hB473, hk474⟩ (fun x hx => (rn_loadN rfl rfl Try.underlying60 rfl (by kernel_rfl) hx.2.all)) fun a475 h475 => ?_; clear h464
       refine dk0 1 (v := pt N14 0) h475 rfl rfl ⟨hB473, hk474⟩ fun a476 h476 => ?_; clear h475
       have ho482 := hf404.new hg468
       refine d1 2 h476 rfl rfl (op_call (args := #[pt N14 0]) (R := fun res xw => ∃ r : Int, res = .int .i64 r ∧ endV s ps.toNat er = r ∧ Below w467.heap.size w467 xw) rfl rfl rfl (by kernel_rfl) (by kernel_rfl) (Try.call88 _ _) (oxr_end N14 s ps er w467 ho482 (by omega)) (by rintro e x ⟨r, rfl, h0, h2⟩; exact ⟨_, rfl, r, rfl, h0, h2⟩)) ?_ ?_; clear h476
       ·
        rintro _ w478 ⟨r479, rfl, hq480, hb481⟩
        have hz483 := hb481.size
        have hB484 := hb_call hB473 hb481
        have hk485 := hk474.below hb481
        exact ⟨hB484, hk485⟩
       rintro _ w478 a477 ⟨r479, rfl, hq480, hb481⟩ h477
       have hz483 := hb481.size
       have hB484 := hb_call hB473 hb481
       have hk485 := hk474.below hb481
       refine dk0 3 (v := .bool (r479 == 0)) h477 rfl rfl ⟨hB484, hk485⟩ fun a486 h486 => ?_; clear h477
       have hr492 := row_kept_new hf405 hg468
       have hr493 := row_kept_new hr492 (below_grown hb481)
       have hk494 := hk407.kept hg468 (by simp)
       have hk495 := hk494.below hb481
       refine d1D 4 h486 rfl rfl (op_storeN rfl rfl rfl (all_cons rfl (all_cons rfl (all_cons rfl (all_cons rfl (all_cons rfl (all_cons rfl (all_cons rfl (all_cons rfl (all_cons rfl (all_cons (row_one hr493) all_nil)))))))))) (by kernel_rfl) hk495 rfl) ?_ ?_; clear h486
       ·
        rintro _ w488 ⟨hk489, hz490, hg491⟩
        have hk489' : Blk w488 N3 60 #[.int .i64 n42, .int .i64 n64, .int .i64 n87, .int .i64 n213, .int .i64 n236, .string n308, .string n332, .int .u64 n284, .int .i64 n260, u] := hk489; clear hk489
        have hz496 := hg491.size
        have hB497 := hb_at hB484 hg491 (by omega)
        have hk498 := hk485.kept hg491 (by simp; omega)
        exact ⟨hB497, hk498⟩
       rintro _ w488 a487 ⟨hk489, hz490, hg491⟩ h487
       have hk489' : Blk w488 N3 60 #[.int .i64 n42, .int .i64 n64, .int .i64 n87, .int .i64 n213, .int .i64 n236, .string n308, .string n332, .int .u64 n284, .int .i64 n260, u] := hk489; clear hk489
       have hz496 := hg491.size
       have hB497 := hb_at hB484 hg491 (by omega)
       have hk498 := hk485.kept hg491 (by simp; omega)
       refine dk0 5 (v := .bool (r479 == 0)) h487 rfl rfl ⟨hB497, hk498⟩ fun a499 h499 => ?_; clear h487
       refine dr_done (by kernel_rfl) ?_
       refine co_then ?_
       refine wp_ret ?_
       refine co_retC1 (Q := fun _ _ _ => True) h499 rfl rfl rfl hk489' Try.underlying60 rfl (by kernel_rfl) ?_
       have hr500 := row_kept_at hr493 hg491 (row_ne_lt hr493 (by omega))
       have hpo : if (r479 == 0) = true then evR s = some ⟨n42, n64, n87, n213, n236, n308, n332, n284, n260, ls⟩ else evR s = none := by
         by_cases hz9 : r479 = 0
         · rw [if_pos (by simp [hz9])]; exact hT343.trans (T1_end hq359 hR hq480 (by omega) (by omega) hz9)
         · rw [if_neg (by simp [hz9])]; exact hT343.trans (T1_no hq359 hR hq480 (by omega) (by omega) hz9)
       exact ⟨⟨n42, n64, n87, n213, n236, n308, n332, n284, n260, ls⟩, _, _, rfl, (row_lows hr500 (by omega)), hpo, hB497⟩
      ·
       rw [hc465] at h464
       have hp501 : er = 0 := by first | simpa using hc465 | simpa [and_assoc] using hc465
       clear hc465
       refine co_true h464 rfl ?_
       refine wp_skip ?_
       refine co_then ?_
       refine co_seq ?_
       refine wp_block ?_
       refine co_seq ?_
       refine co_reg ?_
       refine pk0 (v := .agg #[.string (⟨#[]⟩), .string (⟨#[]⟩), .bool false]) h464 rfl fun a502 h502 => ?_; clear h464
       refine pw h502 rfl (op_new (v := fun N => pt N 0) (T := 66) (cs := #[.string (⟨#[]⟩), .string (⟨#[]⟩), .bool false]) (by kernel_rfl) (by kernel_rfl) (by kernel_rfl)) ?_; clear h502
       rintro _ w504 a503 ⟨N505, rfl, hN508, hz509, hk507, hg506⟩ h503
       have ha510 := row_fresh hf405 hN508
       have hz511 := hg506.size
       try dsimp only at h503
       refine pwD h503 rfl (op_storeN rfl rfl rfl (by kernel_rfl) (by kernel_rfl) hk507 rfl) ?_; clear h503
       rintro _ w513 a512 ⟨hk514, hz515, hg516⟩ h512
       have hk514' : Blk w513 N505 66 #[.string (⟨#[]⟩), .string (⟨#[]⟩), .bool false] := hk514; clear hk514
       have hz517 := hg516.size
       refine pl_nil ?_
       refine co_then ?_
       refine co_seq ?_
       refine co_reg ?_
       refine pk0 (v := pt N14 0) h512 rfl fun a518 h518 => ?_; clear h512
       have ho529 := hf404.new hg506
       have ho530 := ho529.at (by omega) hg516
       refine pw h518 rfl (op_call (args := #[pt N14 0, .int .i64 255]) (R := fun res xw => ∃ (n : ByteArray) (a' e' : Int), res = .string n ∧ textR s ps er 255 = (n, a', e') ∧ (n.size : Int) ≤ 255 ∧ OXR N14 s a' e' xw ∧ w513.grownBy xw (some N14)) rfl rfl rfl (by kernel_rfl) (by kernel_rfl) (Try.call86 _ _) (oxr_text N14 s ps er 255 w513 ho530 (by omega) (by omega) (by omega)) (by rintro q x ⟨n, a', e', rfl, h0, k0, h1, h2⟩; exact ⟨_, rfl, n, a', e', rfl, h0, k0, h1, h2⟩)) ?_; clear h518
       rintro _ w520 a519 ⟨n521, a522, e523, rfl, hq524, hn525, ho527, hg528⟩ h519
       have hz531 := hg528.size
       have hl532 := ho527.lt
       refine pk0 (v := pt N505 0) h519 rfl fun a533 h533 => ?_; clear h519
       have hk539 := hk514'.kept hg528 (by simp; omega)
       refine pwD h533 rfl (op_store1 rfl rfl rfl rfl Try.sizeOf9 hk539 rfl) ?_; clear h533
       rintro _ w535 a534 ⟨hk536, hz537, hg538⟩ h534
       have hk536' : Blk w535 N505 66 #[.string n521, .string (⟨#[]⟩), .bool false] := hk536; clear hk536
       have hz540 := hg538.size
       refine pl_nil ?_
       refine co_then ?_
       refine co_seq ?_
       refine co_reg ?_
       refine pk0 (v := pt N14 0) h534 rfl fun a541 h541 => ?_; clear h534
       have ho552 := ho527.at (by omega) hg538
       refine pw h541 rfl (op_call (args := #[pt N14 0]) (R := fun res xw => ∃ (n : Bool) (a' e' : Int), res = .bool n ∧ flagR s a522.toNat e523 = (n, a', e') ∧ OXR N14 s a' e' xw ∧ w535.grownBy xw (some N14)) rfl rfl rfl (by kernel_rfl) (by kernel_rfl) (Try.call87 _ _) (oxr_flag N14 s a522 e523 w535 ho552 (by omega)) (by rintro q x ⟨n, a', e', rfl, h0, h1, h2⟩; exact ⟨_, rfl, n, a', e', rfl, h0, h1, h2⟩)) ?_; clear h541
       rintro _ w543 a542 ⟨n544, a545, e546, rfl, hq547, ho550, hg551⟩ h542
       have hz553 := hg551.size
       have hl554 := ho550.lt
       refine pk0 (v := pt N505 2) h542 rfl fun a555 h555 => ?_; clear h542
       have hk561 := hk536'.kept hg551 (by simp; omega)
       refine pwD h555 rfl (op_store1 rfl rfl rfl rfl Try.sizeOf4 hk561 rfl) ?_; clear h555
       rintro _ w557 a556 ⟨hk558, hz559, hg560⟩ h556
       have hk558' : Blk w557 N505 66 #[.string n521, .string (⟨#[]⟩), .bool n544] := hk558; clear hk558
       have hz562 := hg560.size
       refine pl_nil ?_
       refine co_then ?_
       refine co_seq ?_
       refine co_reg ?_
       refine pk0 (v := pt N14 0) h556 rfl fun a563 h563 => ?_; clear h556
       have ho574 := ho550.at (by omega) hg560
       refine pw h563 rfl (op_call (args := #[pt N14 0, .int .i64 255]) (R := fun res xw => ∃ (n : ByteArray) (a' e' : Int), res = .string n ∧ textR s a545 e546 255 = (n, a', e') ∧ (n.size : Int) ≤ 255 ∧ OXR N14 s a' e' xw ∧ w557.grownBy xw (some N14)) rfl rfl rfl (by kernel_rfl) (by kernel_rfl) (Try.call86 _ _) (oxr_text N14 s a545 e546 255 w557 ho574 (by omega) (by omega) (by omega)) (by rintro q x ⟨n, a', e', rfl, h0, k0, h1, h2⟩; exact ⟨_, rfl, n, a', e', rfl, h0, k0, h1, h2⟩)) ?_; clear h563
       rintro _ w565 a564 ⟨n566, a567, e568, rfl, hq569, hn570, ho572, hg573⟩ h564
       have hz575 := hg573.size
       have hl576 := ho572.lt
       refine pk0 (v := pt N505 1) h564 rfl fun a577 h577 => ?_; clear h564
       have hk583 := hk558'.kept hg573 (by simp; omega)
       refine pwD h577 rfl (op_store1 rfl rfl rfl rfl Try.sizeOf9 hk583 rfl) ?_; clear h577
       rintro _ w579 a578 ⟨hk580, hz581, hg582⟩ h578
       have hk580' : Blk w579 N505 66 #[.string n521, .string n566, .bool n544] := hk580; clear hk580
       have hz584 := hg582.size
       refine pl_nil ?_
       refine co_then ?_
       refine co_reg ?_
       refine pk0 (v := pt N24 3) h578 rfl fun a585 h585 => ?_; clear h578
       refine pk0 (v := pt N24 9) h585 rfl fun a586 h586 => ?_; clear h585
       have hk587 := hf403.kept hg506 (by simp)
       have hk588 := hk587.kept hg516 (by simp; omega)
       have hk589 := hk588.kept hg528 (by simp; omega)
       have hk590 := hk589.kept hg538 (by simp; omega)
       have hk591 := hk590.kept hg551 (by simp; omega)
       have hk592 := hk591.kept hg560 (by simp; omega)
       have hk593 := hk592.kept hg573 (by simp; omega)
       have hk594 := hk593.kept hg582 (by simp; omega)
       refine pk (v := u) h586 rfl (rn_load1 rfl rfl Try.isAgg24 (hk594.cell rfl)) fun a595 h595 => ?_; clear h586
       refine pk (v := .agg #[.string n521, .string n566, .bool n544]) h595 rfl (rn_loadN rfl rfl Try.underlying66 rfl (by kernel_rfl) hk580'.all) fun a596 h596 => ?_; clear h595
       refine pw h596 rfl (op_new (v := fun N => .slice (some ⟨N, 0, none⟩) 1 1) (T := 66) (cs := #[.string n521, .string n566, .bool n544]) (by kernel_rfl) (by kernel_rfl) (by kernel_rfl)) ?_; clear h596
       rintro _ w598 a597 ⟨N599, rfl, hN602, hz603, hk601, hg600⟩ h597
       have hr605 := row_kept_new hf405 hg506
       have hr606 := row_kept_at hr605 hg516 (ha510)
       have hr607 := row_kept_at hr606 hg528 (row_ne_lt hr606 (by omega))
       have hr608 := row_kept_at hr607 hg538 (ha510)
       have hr609 := row_kept_at hr608 hg551 (row_ne_lt hr608 (by omega))
       have hr610 := row_kept_at hr609 hg560 (ha510)
       have hr611 := row_kept_at hr610 hg573 (row_ne_lt hr610 (by omega))
       have hr612 := row_kept_at hr611 hg582 (ha510)
       have ha604 := row_fresh hr612 hN602
       have hz613 := hg600.size
       try dsimp only at h597
       have hr620 := row_kept_new hr612 hg600
       refine pw h597 rfl (op_append rfl (N24 + 1) 66 (z := .agg #[.string (⟨#[]⟩), .string (⟨#[]⟩), .bool false]) (size := 3) (bytes := 40) Try.underlying24 (by kernel_rfl) rfl rfl rfl hr620 rfl hk601 rfl (by kernel_rfl) (by first | omega | (simp only [List.length_nil, List.length_append, List.length_cons, List.length_take, List.length_drop]; omega)) (by first | omega | (simp only [List.length_nil, List.length_append, List.length_cons, List.length_take, List.length_drop]; omega)) (by omega)) ?_; clear h597
       rintro v616 w615 a614 ⟨hr617, hg618⟩ h614
       have hr617' : w615.ownsRow (N24 + 1) 66 3 v616 ((ls ++ [(n521, n566, n544)]).length) ((ls ++ [(n521, n566, n544)]).flatMap opE) := row_push (y := (n521, n566, n544)) hr617 rfl rfl; clear hr617
       have hz621 := hg618.size
       refine pk0 (v := pt N24 3) h614 rfl fun a622 h622 => ?_; clear h614
       refine pk0 (v := pt N24 9) h622 rfl fun a623 h623 => ?_; clear h622
       have hk629 := hk594.kept hg600 (by simp)
       have hk630 := hk629.kept hg618 (row_ne_lt hr620 (by omega))
       refine pwD h623 rfl (op_store1 rfl rfl rfl (row_one hr617') Try.sizeOf24 hk630 rfl) ?_; clear h623
       rintro _ w625 a624 ⟨hk626, hz627, hg628⟩ h624
       have hk626' : Blk w625 N24 60 #[.int .i64 n42, .int .i64 n64, .int .i64 n87, .int .i64 n213, .int .i64 n236, .string n308, .string n332, .int .u64 n284, .int .i64 n260, v616] := hk626; clear hk626
       have hz631 := hg628.size
       refine pl_nil ?_
       refine co_blockN ?_
       refine co_then ?_
       refine co_reg ?_
       refine pk0 (v := .int .i64 ((i : Nat) : Int)) h624 rfl fun a632 h632 => ?_; clear h624
       refine pk (v := .int .i64 ((i + 1 : Nat) : Int)) h632 rfl (rn_arith' rfl rfl rfl rfl rfl rfl (IntWalk.i64_in _ (by omega)) (by omega)) fun a633 h633 => ?_; clear h632
       refine pk0 (v := .int .i64 ((i + 1 : Nat) : Int)) h633 rfl fun a634 h634 => ?_; clear h633
       refine pl_nil ?_
       refine co_then ?_
       refine ⟨(n356.toNat - (i + 1)), by omega, ?_⟩
       have hR' := sdN_step hR hq524 hq547 hq569
       have ho635 := ho572.at (by omega) hg582
       have ho636 := ho635.new hg600
       have ho637 := ho636.row (row_ne_lt hr620 (by omega)) hg618
       have ho638 := ho637.at (by omega) hg628
       have hr639 := row_kept_at hr617' hg628 (row_ne_lt hr617' (by omega))
       have hB640 := hb_new hB406 hg506
       have hB641 := hb_at hB640 hg516 (by omega)
       have hB642 := hb_at hB641 hg528 (by omega)
       have hB643 := hb_at hB642 hg538 (by omega)
       have hB644 := hb_at hB643 hg551 (by omega)
       have hB645 := hb_at hB644 hg560 (by omega)
       have hB646 := hb_at hB645 hg573 (by omega)
       have hB647 := hb_at hB646 hg582 (by omega)
       have hB648 := hb_new hB647 hg600
       have hB649 := hb_row hB648 hr620 (by omega) hg618
       have hB650 := hb_at hB649 hg628 (by omega)
       have hk651 := hk407.kept hg506 (by simp)
       have hk652 := hk651.kept hg516 (by simp; omega)
       have hk653 := hk652.kept hg528 (by simp; omega)
       have hk654 := hk653.kept hg538 (by simp; omega)
       have hk655 := hk654.kept hg551 (by simp; omega)
       have hk656 := hk655.kept hg560 (by simp; omega)
       have hk657 := hk656.kept hg573 (by simp; omega)
       have hk658 := hk657.kept hg582 (by simp; omega)
       have hk659 := hk658.kept hg600 (by simp)
       have hk660 := hk659.kept hg618 (row_ne_lt hr620 (by omega))
       have hk661 := hk660.kept hg628 (by simp; omega)
       exact ⟨i + 1, v616, ls ++ [(n521, n566, n544)], a567, e568, h634.sub ⟨rfl, rfl, rfl, rfl, rfl, trivial⟩, rfl, by omega, by first | rfl | (simp; omega), by first | rfl | exact hR', hk626', ho638, (row_eq hr639 (rfl)), hB650, hk661⟩
end Go.Proofs.Ytdgboikkgeioeaa

/- The document's Of. Conditions: texts of at most 1000000 bytes. -/
namespace Go.Proofs.Ytdgboikkgeioeaa
open Go.RowKit Go.Shelf
set_option linter.unusedVariables false
set_option linter.unusedSimpArgs false

/-- What the loop keeps: a list, each step's operations. -/
def IR (B : Nat) (pre : List ByteArray) (v : Value) (X : World) : Prop := ∃ us : List EvX, us.map EvX.d = pre.filterMap evR ∧ X.ownsRow B 60 10 v us.length (us.flatMap evE) ∧ ∀ z ∈ us, X.ownsRow B 66 3 z.ov z.d.ops.length (z.d.ops.flatMap opE)
theorem IR.below {B : Nat} {pre : List ByteArray} {v : Value} {X Y : World} (h : IR B pre v X) (hb : Below X.heap.size X Y) : IR B pre v Y := by
  obtain ⟨us, h1, h2, h3⟩ := h
  exact ⟨us, h1, h2.kept (below_grown hb) (by cases v.ownBlock <;> simp), fun z hz => (h3 z hz).kept (below_grown hb) (by cases z.ov.ownBlock <;> simp)⟩
set_option maxRecDepth 100000 in
set_option maxHeartbeats 4000000 in
theorem rcOf_any (S : ByteArray) (w : World) (hsz : S.size ≤ 1000000) :
    Calls Try.prog 22 #[.string S] w fun e w' => ∃ (v : Value) (us : List EvX), e = .returned v ∧ us.map EvX.d = stepsR S ∧ w'.ownsRow w.heap.size 60 10 v us.length (us.flatMap evE) ∧ (∀ z ∈ us, w'.ownsRow w.heap.size 66 3 z.ov z.d.ops.length (z.d.ops.flatMap opE)) ∧ Below w.heap.size w w' := by
  obtain ⟨i0, hi, hz0, hz1, hz2⟩ := info_parts info_ev
  obtain ⟨hl1, hl2⟩ := pcs_mem S S.size 0 (by omega)
  have HL := Lib.hid hl2; clear hl2
  go_enter Try.func22, Try.ntmps22
  go_wp2
  go_loopw [3, 4] (fun p q wr => ∃ (pre : List ByteArray) (a : Nat), q = .int .i64 (a : Int) ∧ a ≤ S.size ∧ pre ++ pcs S a = pcs S 0 ∧ Hid (IR w.heap.size pre p wr) ∧ Hid (Below w.heap.size w wr)) (fun p q wr => S.size - (intOf q).toNat)
  case atStart => exact ⟨[], 0, rfl, Nat.zero_le _, rfl, Lib.hid ⟨[], rfl, World.ownsRow_nil _ _ _ _, by simp⟩, Lib.hid (Below.refl _ _)⟩
  case round =>
    obtain ⟨pre, a, rfl, ha, hpre, HIR, HBW⟩ := hrel
    have HPRE := Lib.hid hpre; clear hpre
    by_cases h2 : a < S.size
    · have hd1 : decide ((a : Int) < (S.size : Int)) = true := decide_eq_true (by omega)
      obtain ⟨n, hn⟩ : ∃ n, n = pcN S a := ⟨_, rfl⟩
      have hb0 : ∀ h : a < S.size, (S[a]'h).toNat = n := fun h => by rw [hn]; unfold pcN; rw [Array.getD_eq_getD_getElem?, Array.getElem?_eq_getElem h]; rfl
      have hn8 : n < 256 := by rw [hn]; exact UInt8.toNat_lt _
      have HN := Lib.hid hn; clear hn
      have hw1 : wrap64 ((n : Nat) : Int) = (n : Int) := by unfold wrap64; omega
      have hw2 : wrap64 ((S.size : Int) - (a : Int)) = (S.size : Int) - (a : Int) := by unfold wrap64; omega
      by_cases h3 : n < S.size - a
      · have hd2 : decide ((n : Int) < (S.size : Int) - (a : Int)) = true := decide_eq_true (by omega)
        have hp : (pre ++ [S.extract (a + 1) (a + 1 + n)]) ++ pcs S (a + 1 + n) = pcs S 0 := by
          have h := HPRE.out
          rw [pcs_y (a := a) ⟨h2, by rw [← HN.out]; exact h3⟩, ← HN.out] at h
          rw [← h]; simp
        have HP := Lib.hid hp; clear hp
        go_wp2_with fail
        have hx9 : (S.extract (a + 1) (a + 1 + n)).size ≤ 9223372036854775807 := by rw [ByteArray.size_extract]; omega
        refine (rcRead_any (S.extract (a + 1) (a + 1 + n)) wr hx9).mono ?_
        rintro e w1 ⟨d, b, u, rfl, hr1, hpo, hb1⟩
        obtain ⟨ao, un, uc, rfl⟩ := row_form hr1
        have hI1 := HIR.out.below hb1
        have hW1 := HBW.out.trans (hb1.mono HBW.out.size)
        have HI1 := Lib.hid hI1; have HW1 := Lib.hid hW1; have HR1 := Lib.hid hr1; have HPO := Lib.hid hpo; have HB1 := Lib.hid hb1
        clear hI1 hW1 hr1 hpo hb1
        cases b with
        | false =>
          have hne : evR (S.extract (a + 1) (a + 1 + n)) = none := by have h := HPO.out; rwa [if_neg (by decide)] at h
          have HNE := Lib.hid hne; clear hne
          go_wp2
          have hfm : (pre ++ [S.extract (a + 1) (a + 1 + n)]).filterMap evR = pre.filterMap evR := by simp [List.filterMap_append, HNE.out]
          obtain ⟨us, g1, g2⟩ := HI1.out.below ((Below.refl _ w1).alloc (Nat.le_refl _) (.cells #[.int .i64 d.k, .int .i64 d.nd, .int .i64 d.n, .int .i64 d.ak, .int .i64 d.an, .string d.ky, .string d.tt, .int .u64 d.at_, .int .i64 d.am, .slice ao un uc] 60))
          refine ⟨⟨pre ++ [S.extract (a + 1) (a + 1 + n)], a + 1 + n, congrArg (Value.int .i64) (by omega), by omega, HP.out, Lib.hid ⟨us, by rw [hfm]; exact g1, g2⟩, Lib.hid (HW1.out.alloc (HW1.out.size) _)⟩, ?_⟩
          show S.size - ((a : Int) + 1 + (n : Int)).toNat < S.size - ((a : Int)).toNat
          omega
        | true =>
          have hne : evR (S.extract (a + 1) (a + 1 + n)) = some d := by have h := HPO.out; rwa [if_pos rfl] at h
          have HNE := Lib.hid hne; clear hne
          obtain ⟨us, g1, g2, g3⟩ := HI1.out
          have hul : us.length ≤ pre.length := by have h := congrArg List.length g1; rw [List.length_map] at h; rw [h]; exact List.length_filterMap_le _ _
          have hpl : pre.length < 1000001 := by have h := congrArg List.length HP.out; simp only [List.length_append, List.length_cons, List.length_nil] at h; omega
          have G1 := Lib.hid g1; have G3 := Lib.hid g3; clear g1 g3
          go_wp2_with (at_builtin; refine wpList_append_own _ rfl _ _ 50 rfl w.heap.size 60 i0 (.agg zev) 10 112 Try.underlying50 hi hz0 hz1 hz2 rfl (by decide) _ _ _ rfl ((g2.alloc _).alloc _) ⟨w1.heap.size + 1, 0, none⟩ 1 1 [.int .i64 d.k, .int .i64 d.nd, .int .i64 d.n, .int .i64 d.ak, .int .i64 d.an, .string d.ky, .string d.tt, .int .u64 d.at_, .int .i64 d.am, .slice ao un uc] rfl rfl (by have h := World.alloc_heap_new (w1.alloc (.cells #[.int .i64 d.k, .int .i64 d.nd, .int .i64 d.n, .int .i64 d.ak, .int .i64 d.an, .string d.ky, .string d.tt, .int .u64 d.at_, .int .i64 d.am, .slice ao un uc] 60)) (.cells #[.int .i64 d.k, .int .i64 d.nd, .int .i64 d.n, .int .i64 d.ak, .int .i64 d.an, .string d.ky, .string d.tt, .int .u64 d.at_, .int .i64 d.am, .slice ao un uc] 60); rw [World.size_alloc] at h; exact World.news_of_block h) (by simp [Value.oneCell']) (by unfold maxLen; omega) (by omega) (by have := HW1.out.size; simp; omega) ?_; intro v' w9 hown' hgrow _)
          have hfm : (pre ++ [S.extract (a + 1) (a + 1 + n)]).filterMap evR = pre.filterMap evR ++ [d] := by simp [List.filterMap_append, HNE.out]
          have hop : ∀ {u : Value} {l : List OpT}, w1.ownsRow w.heap.size 66 3 u l.length (l.flatMap opE) → w9.ownsRow w.heap.size 66 3 u l.length (l.flatMap opE) := fun {u l} h => row_kept_row ((h.alloc (.cells #[.int .i64 d.k, .int .i64 d.nd, .int .i64 d.n, .int .i64 d.ak, .int .i64 d.an, .string d.ky, .string d.tt, .int .u64 d.at_, .int .i64 d.am, .slice ao un uc] 60)).alloc (.cells #[.int .i64 d.k, .int .i64 d.nd, .int .i64 d.n, .int .i64 d.ak, .int .i64 d.an, .string d.ky, .string d.tt, .int .u64 d.at_, .int .i64 d.am, .slice ao un uc] 60)) ((g2.alloc _).alloc _) hgrow (by decide)
          refine ⟨⟨pre ++ [S.extract (a + 1) (a + 1 + n)], a + 1 + n, congrArg (Value.int .i64) (by omega), by omega, HP.out, Lib.hid ⟨us ++ [⟨d, .slice ao un uc⟩], by rw [hfm, List.map_append, G1.out]; rfl, ?_, fun z hz => ?_⟩, Lib.hid ?_⟩, ?_⟩
          · rw [List.length_append, List.flatMap_append]; exact hown'
          · rcases List.mem_append.1 hz with hz | hz
            · exact hop (G3.out z hz)
            · rw [List.mem_singleton] at hz; subst hz; exact hop (row_lows HR1.out HBW.out.size)
          · exact ((HW1.out.alloc HW1.out.size _).alloc (by have := HW1.out.size; simp; omega) _).grown hgrow (by have := HW1.out.size; simp; omega) (fun k e => (((g2.alloc (.cells #[.int .i64 d.k, .int .i64 d.nd, .int .i64 d.n, .int .i64 d.ak, .int .i64 d.an, .string d.ky, .string d.tt, .int .u64 d.at_, .int .i64 d.am, .slice ao un uc] 60)).alloc (.cells #[.int .i64 d.k, .int .i64 d.nd, .int .i64 d.n, .int .i64 d.ak, .int .i64 d.an, .string d.ky, .string d.tt, .int .u64 d.at_, .int .i64 d.am, .slice ao un uc] 60)).lt k e).1)
          · show S.size - ((a : Int) + 1 + (n : Int)).toNat < S.size - ((a : Int)).toNat
            omega
      · have hd2 : decide ((n : Int) < (S.size : Int) - (a : Int)) = false := decide_eq_false (by omega)
        go_wp2
        go_ret
        obtain ⟨us, g1, g2, g3⟩ := HIR.out
        exact ⟨_, us, rfl, by unfold stepsR; rw [← HPRE.out, pcs_n (fun q => h3 (by rw [HN.out]; exact q.2)), List.append_nil]; exact g1, g2, g3, HBW.out⟩
    · have hd1 : decide ((a : Int) < (S.size : Int)) = false := decide_eq_false (by omega)
      go_wp2
      go_ret
      obtain ⟨us, g1, g2, g3⟩ := HIR.out
      exact ⟨_, us, rfl, by unfold stepsR; rw [← HPRE.out, pcs_n (fun q => h2 q.1), List.append_nil]; exact g1, g2, g3, HBW.out⟩
end Go.Proofs.Ytdgboikkgeioeaa

/- The document's Same of two lists of steps that read alike. Conditions: none. -/
namespace Go.Proofs.Ytdgboikkgeioeaa
open Go.RowKit Go.PlainAid
set_option linter.unusedVariables false
set_option linter.unusedSimpArgs false


structure EvSl (w : World) (x : EvX) : Prop where
  sl : SliceOf opE 3 w x.ov x.d.ops
theorem EvSl.below {w w' : World} {x : EvX} (h : EvSl w x) (hb : Below w.heap.size w w') : EvSl w' x := ⟨h.sl.below hb⟩
theorem eqLen {l l2 : List EvX} (h : l.map EvX.d = l2.map EvX.d) : l.length = l2.length := by have := congrArg List.length h; simpa using this
theorem eqD {l l2 : List EvX} {i : Nat} {y : EvX} {zd : EvD} {zo : Value} (h : l.map EvX.d = l2.map EvX.d) (h1 : l[i]? = some y) (h2 : l2[i]? = some ⟨zd, zo⟩) : zd = y.d := by
  have := congrArg (fun q => q[i]?) h
  simp only [List.getElem?_map, h1, h2, Option.map_some] at this
  exact (Option.some.inj this).symm

set_option maxRecDepth 100000 in
set_option maxHeartbeats 1600000 in
theorem sameEv_any (v : Value) (l : List EvX) (v2 : Value) (l2 : List EvX) (w : World) (hs : SliceOf evE 10 w v l) (hok : ∀ z ∈ l, EvSl w z) (hs2 : SliceOf evE 10 w v2 l2) (hok2 : ∀ z ∈ l2, EvSl w z) (heq : l.map EvX.d = l2.map EvX.d) :
    Calls Try.prog 20 #[v, v2] w fun e w' => e = .returned (.bool true) ∧ Below w.heap.size w w' := by
 have hll := eqLen heq
 have hB0 := Below.refl w.heap.size w
 have hl_hs := sl_len hs
 have hl_hs2 := sl_len hs2
 refine co_enter (n := 149) Try.func20 rfl rfl rfl [(0, v), (1, v2)] rfl (fun a h0 => ?_)
 refine co_seq ?_
 refine co_reg ?_
 refine pk0 (v := .bool false) h0 rfl fun a1 h1 => ?_; clear h0
 refine pl_nil ?_
 refine co_then ?_
 refine co_seq ?_
 refine co_seq ?_
 refine co_reg ?_
 refine pk0 (v := v) h1 rfl fun a2 h2 => ?_; clear h1
 refine pk (v := .int .i64 ((l.length : Nat) : Int)) h2 rfl (rn_len rfl rfl Try.underlying50 hs) fun a3 h3 => ?_; clear h2
 refine pk0 (v := v2) h3 rfl fun a4 h4 => ?_; clear h3
 refine pk (v := .int .i64 ((l2.length : Nat) : Int)) h4 rfl (rn_len rfl rfl Try.underlying50 hs2) fun a5 h5 => ?_; clear h4
 refine pk0 (v := .bool (((l.length : Nat) : Int) != ((l2.length : Nat) : Int))) h5 rfl fun a6 h6 => ?_; clear h5
 refine pl_nil ?_
 refine co_then ?_
 have hc7 : (((l.length : Nat) : Int) != ((l2.length : Nat) : Int)) = false := by first | (simp; done) | (simp; omega) | exact beq_false_of_ne (by omega) | exact beq_iff_eq.2 (by omega)
 rw [hc7] at h6; clear hc7
 refine co_false h6 rfl ?_
 refine wp_skip ?_
 refine co_then ?_
 refine co_seq ?_
 refine co_seq ?_
 refine co_reg ?_
 refine pk0 (v := .int .i64 0) h6 rfl fun a8 h8 => ?_; clear h6
 refine pl_nil ?_
 refine co_then ?_
 refine wp_block ?_
 have h9 : Slots 149 [(0, v), (1, v2), (5, .int .i64 0)] _ := h8.sub ⟨rfl, rfl, rfl, trivial⟩; clear h8
 refine co_loop (fun mm a x => ∃ (i : Nat), Slots 149 [(0, v), (1, v2), (5, .int .i64 ((i : Nat) : Int))] a ∧ mm = l.length - i ∧ (i ≤ l.length) ∧ Below w.heap.size w x) (l.length - 0) ?_ ?_
 · exact ⟨0, h9.sub ⟨rfl, rfl, (slot_eq rfl (congrArg (Value.int .i64) (by first | rfl | omega))), trivial⟩, rfl, by omega, hB0⟩
 · rintro k10 a11 w12 ⟨i, h11, rfl, hi13, hB14⟩
   have hz15 := hB14.size
   refine co_seq ?_
   refine co_seq ?_
   refine co_reg ?_
   refine pk0 (v := .int .i64 ((i : Nat) : Int)) h11 rfl fun a16 h16 => ?_; clear h11
   refine pk0 (v := v) h16 rfl fun a17 h17 => ?_; clear h16
   refine pk (v := .int .i64 ((l.length : Nat) : Int)) h17 rfl (rn_len rfl rfl Try.underlying50 (hs.below hB14)) fun a18 h18 => ?_; clear h17
   refine pk0 (v := .bool (decide (((i : Nat) : Int) < ((l.length : Nat) : Int)))) h18 rfl fun a19 h19 => ?_; clear h18
   refine pk0 (v := .bool (decide (((i : Nat) : Int) < ((l.length : Nat) : Int)))) h19 rfl fun a20 h20 => ?_; clear h19
   cases hc21 : (decide (((i : Nat) : Int) < ((l.length : Nat) : Int)))
   ·
    rw [hc21] at h20
    have hp22 : ¬ (((i : Nat) : Int) < ((l.length : Nat) : Int)) := of_decide_eq_false hc21
    clear hc21
    refine psk h20 rfl fun a23 h23 => ?_; clear h20
    refine psk h23 rfl fun a24 h24 => ?_; clear h23
    refine psk h24 rfl fun a25 h25 => ?_; clear h24
    refine psk h25 rfl fun a26 h26 => ?_; clear h25
    refine pk0 (v := .bool false) h26 rfl fun a27 h27 => ?_; clear h26
    refine pl_nil ?_
    refine co_then ?_
    refine co_false h27 rfl ?_
    refine wp_exit ?_
    refine co_thenX ?_
    refine co_thenX ?_
    refine co_blockX ?_
    refine co_then ?_
    refine co_seq ?_
    refine co_reg ?_
    refine pk0 (v := .bool true) h27 rfl fun a28 h28 => ?_; clear h27
    refine pl_nil ?_
    refine co_then ?_
    refine wp_ret ?_
    refine co_ret1 h28 rfl rfl ?_
    exact ⟨rfl, hB14⟩
   ·
    rw [hc21] at h20
    have hp29 : ((i : Nat) : Int) < ((l.length : Nat) : Int) := of_decide_eq_true hc21
    clear hc21
    refine pk0 (v := .int .i64 ((i : Nat) : Int)) h20 rfl fun a30 h30 => ?_; clear h20
    refine pk0 (v := v2) h30 rfl fun a31 h31 => ?_; clear h30
    refine pk (v := .int .i64 ((l2.length : Nat) : Int)) h31 rfl (rn_len rfl rfl Try.underlying50 (hs2.below hB14)) fun a32 h32 => ?_; clear h31
    refine pk0 (v := .bool (decide (((i : Nat) : Int) < ((l2.length : Nat) : Int)))) h32 rfl fun a33 h33 => ?_; clear h32
    refine pk0 (v := .bool (decide (((i : Nat) : Int) < ((l2.length : Nat) : Int)))) h33 rfl fun a34 h34 => ?_; clear h33
    refine pl_nil ?_
    refine co_then ?_
    have hc35 : (decide (((i : Nat) : Int) < ((l2.length : Nat) : Int))) = true := decide_eq_true (by omega)
    rw [hc35] at h34; clear hc35
    refine co_true h34 rfl ?_
    refine wp_skip ?_
    refine co_then ?_
    refine co_seq ?_
    refine wp_block ?_
    refine co_seq ?_
    refine co_reg ?_
    refine pk0 (v := v) h34 rfl fun a36 h36 => ?_; clear h34
    refine pk0 (v := .int .i64 ((i : Nat) : Int)) h36 rfl fun a37 h37 => ?_; clear h36
    obtain ⟨y38, hy38⟩ : ∃ z, l[i]? = some z := ⟨_, List.getElem?_eq_getElem (by first | omega | (simp; done) | (simp; omega))⟩
    have oky38 := hok _ (List.mem_of_getElem? hy38)
    have hlny38 := sl_len oky38.sl
    refine pk (v := pt (blkOf v) (offOf v + i * 10)) h37 rfl (rn_index rfl rfl rfl Try.underlying50 Try.sizeOf60 (hs.below hB14) (by omega) (by first | omega | (simp; done) | (simp; omega))) fun a39 h39 => ?_; clear h37
    refine pk0 (v := pt (blkOf v) (offOf v + i * 10 + 3)) h39 rfl fun a40 h40 => ?_; clear h39
    refine pk (v := .agg #[.int .i64 y38.d.ak, .int .i64 y38.d.an, .string y38.d.ky, .string y38.d.tt, .int .u64 y38.d.at_, .int .i64 y38.d.am, y38.ov]) h40 rfl (rn_loadN rfl rfl Try.underlying35 rfl (by kernel_rfl) (range_part (sl_at (hs.below hB14) hy38) 3 _ (by rfl))) fun a41 h41 => ?_; clear h40
    refine pw h41 rfl (op_new (v := fun N => pt N 0) (T := 35) (cs := #[.int .i64 0, .int .i64 0, .string (⟨#[]⟩), .string (⟨#[]⟩), .int .u64 0, .int .i64 0, .slice none 0 0]) (by kernel_rfl) (by kernel_rfl) (by kernel_rfl)) ?_; clear h41
    rintro _ w43 a42 ⟨N44, rfl, hN47, hz48, hk46, hg45⟩ h42
    have hz49 := hg45.size
    try dsimp only at h42
    have hB55 := hb_new hB14 hg45
    refine pwD h42 rfl (op_storeN rfl rfl rfl (all_cons rfl (all_cons rfl (all_cons rfl (all_cons rfl (all_cons rfl (all_cons rfl (all_cons (sl_one (oky38.sl.below hB55)) all_nil))))))) (by kernel_rfl) hk46 rfl) ?_; clear h42
    rintro _ w51 a50 ⟨hk52, hz53, hg54⟩ h50
    have hk52' : Blk w51 N44 35 #[.int .i64 y38.d.ak, .int .i64 y38.d.an, .string y38.d.ky, .string y38.d.tt, .int .u64 y38.d.at_, .int .i64 y38.d.am, y38.ov] := hk52; clear hk52
    have hz56 := hg54.size
    refine pl_nil ?_
    refine co_then ?_
    refine co_seq ?_
    refine co_reg ?_
    refine pk0 (v := v2) h50 rfl fun a57 h57 => ?_; clear h50
    refine pk0 (v := .int .i64 ((i : Nat) : Int)) h57 rfl fun a58 h58 => ?_; clear h57
    have hB62 := hb_at hB55 hg54 (by omega)
    obtain ⟨y59, hy59⟩ : ∃ z, l2[i]? = some z := ⟨_, List.getElem?_eq_getElem (by first | omega | (simp; done) | (simp; omega))⟩
    have oky59 := hok2 _ (List.mem_of_getElem? hy59)
    obtain ⟨zd60, zo61⟩ := y59
    obtain rfl : zd60 = y38.d := eqD heq hy38 hy59
    refine pk (v := pt (blkOf v2) (offOf v2 + i * 10)) h58 rfl (rn_index rfl rfl rfl Try.underlying50 Try.sizeOf60 (hs2.below hB62) (by omega) (by first | omega | (simp; done) | (simp; omega))) fun a63 h63 => ?_; clear h58
    refine pk0 (v := pt (blkOf v2) (offOf v2 + i * 10 + 3)) h63 rfl fun a64 h64 => ?_; clear h63
    refine pk (v := .agg #[.int .i64 y38.d.ak, .int .i64 y38.d.an, .string y38.d.ky, .string y38.d.tt, .int .u64 y38.d.at_, .int .i64 y38.d.am, zo61]) h64 rfl (rn_loadN rfl rfl Try.underlying35 rfl (by kernel_rfl) (range_part (sl_at (hs2.below hB62) hy59) 3 _ (by rfl))) fun a65 h65 => ?_; clear h64
    refine pw h65 rfl (op_new (v := fun N => pt N 0) (T := 35) (cs := #[.int .i64 0, .int .i64 0, .string (⟨#[]⟩), .string (⟨#[]⟩), .int .u64 0, .int .i64 0, .slice none 0 0]) (by kernel_rfl) (by kernel_rfl) (by kernel_rfl)) ?_; clear h65
    rintro _ w67 a66 ⟨N68, rfl, hN71, hz72, hk70, hg69⟩ h66
    have hz73 := hg69.size
    try dsimp only at h66
    have hB79 := hb_new hB62 hg69
    refine pwD h66 rfl (op_storeN rfl rfl rfl (all_cons rfl (all_cons rfl (all_cons rfl (all_cons rfl (all_cons rfl (all_cons rfl (all_cons (sl_one (oky59.sl.below hB79)) all_nil))))))) (by kernel_rfl) hk70 rfl) ?_; clear h66
    rintro _ w75 a74 ⟨hk76, hz77, hg78⟩ h74
    have hk76' : Blk w75 N68 35 #[.int .i64 y38.d.ak, .int .i64 y38.d.an, .string y38.d.ky, .string y38.d.tt, .int .u64 y38.d.at_, .int .i64 y38.d.am, zo61] := hk76; clear hk76
    have hz80 := hg78.size
    refine pl_nil ?_
    refine co_then ?_
    refine co_seq ?_
    refine co_seq ?_
    simp only [List.append_eq, List.cons_append, List.nil_append]
    refine dr_eq (by kernel_rfl) (fun w81 hg82 => ?_)
    have hz83 := hg82.size
    refine dk0 0 (v := v) h74 rfl rfl rfl fun a84 h84 => ?_; clear h74
    refine dk0 1 (v := .int .i64 ((i : Nat) : Int)) h84 rfl rfl rfl fun a85 h85 => ?_; clear h84
    have hB86 := hb_at hB79 hg78 (by omega)
    have hB87 := hb_new hB86 hg82
    refine dk 2 (v := pt (blkOf v) (offOf v + i * 10)) h85 rfl rfl rfl (fun x hx => by subst hx; exact (rn_index rfl rfl rfl Try.underlying50 Try.sizeOf60 (hs.below hB87) (by omega) (by first | omega | (simp; done) | (simp; omega)))) fun a88 h88 => ?_; clear h85
    refine dk0 3 (v := pt (blkOf v) (offOf v + i * 10)) h88 rfl rfl rfl fun a89 h89 => ?_; clear h88
    refine dk 4 (v := .int .i64 y38.d.k) h89 rfl rfl rfl (fun x hx => by subst hx; exact (rn_load1 rfl rfl Try.isAgg3 ((sl_at (hs.below hB87) hy38) 0 _ rfl))) fun a90 h90 => ?_; clear h89
    refine dk0 5 (v := v2) h90 rfl rfl rfl fun a91 h91 => ?_; clear h90
    refine dk0 6 (v := .int .i64 ((i : Nat) : Int)) h91 rfl rfl rfl fun a92 h92 => ?_; clear h91
    refine dk 7 (v := pt (blkOf v2) (offOf v2 + i * 10)) h92 rfl rfl rfl (fun x hx => by subst hx; exact (rn_index rfl rfl rfl Try.underlying50 Try.sizeOf60 (hs2.below hB87) (by omega) (by first | omega | (simp; done) | (simp; omega)))) fun a93 h93 => ?_; clear h92
    refine dk0 8 (v := pt (blkOf v2) (offOf v2 + i * 10)) h93 rfl rfl rfl fun a94 h94 => ?_; clear h93
    refine dk 9 (v := .int .i64 y38.d.k) h94 rfl rfl rfl (fun x hx => by subst hx; exact (rn_load1 rfl rfl Try.isAgg3 ((sl_at (hs2.below hB87) hy59) 0 _ rfl))) fun a95 h95 => ?_; clear h94
    refine dk0 10 (v := .bool (y38.d.k != y38.d.k)) h95 rfl rfl rfl fun a96 h96 => ?_; clear h95
    refine dk0 11 (v := .bool (y38.d.k != y38.d.k)) h96 rfl rfl rfl fun a97 h97 => ?_; clear h96
    have hc98 : (y38.d.k != y38.d.k) = false := by simp
    rw [hc98] at h97; clear hc98
    refine dk0 12 (v := v) h97 rfl rfl rfl fun a99 h99 => ?_; clear h97
    refine dk0 13 (v := .int .i64 ((i : Nat) : Int)) h99 rfl rfl rfl fun a100 h100 => ?_; clear h99
    refine dk 14 (v := pt (blkOf v) (offOf v + i * 10)) h100 rfl rfl rfl (fun x hx => by subst hx; exact (rn_index rfl rfl rfl Try.underlying50 Try.sizeOf60 (hs.below hB87) (by omega) (by first | omega | (simp; done) | (simp; omega)))) fun a101 h101 => ?_; clear h100
    refine dk0 15 (v := pt (blkOf v) (offOf v + i * 10 + 1)) h101 rfl rfl rfl fun a102 h102 => ?_; clear h101
    refine dk 16 (v := .int .i64 y38.d.nd) h102 rfl rfl rfl (fun x hx => by subst hx; exact (rn_load1 rfl rfl Try.isAgg3 ((sl_at (hs.below hB87) hy38) 1 _ rfl))) fun a103 h103 => ?_; clear h102
    refine dk0 17 (v := v2) h103 rfl rfl rfl fun a104 h104 => ?_; clear h103
    refine dk0 18 (v := .int .i64 ((i : Nat) : Int)) h104 rfl rfl rfl fun a105 h105 => ?_; clear h104
    refine dk 19 (v := pt (blkOf v2) (offOf v2 + i * 10)) h105 rfl rfl rfl (fun x hx => by subst hx; exact (rn_index rfl rfl rfl Try.underlying50 Try.sizeOf60 (hs2.below hB87) (by omega) (by first | omega | (simp; done) | (simp; omega)))) fun a106 h106 => ?_; clear h105
    refine dk0 20 (v := pt (blkOf v2) (offOf v2 + i * 10 + 1)) h106 rfl rfl rfl fun a107 h107 => ?_; clear h106
    refine dk 21 (v := .int .i64 y38.d.nd) h107 rfl rfl rfl (fun x hx => by subst hx; exact (rn_load1 rfl rfl Try.isAgg3 ((sl_at (hs2.below hB87) hy59) 1 _ rfl))) fun a108 h108 => ?_; clear h107
    refine dk0 22 (v := .bool (y38.d.nd != y38.d.nd)) h108 rfl rfl rfl fun a109 h109 => ?_; clear h108
    refine dk0 23 (v := .bool (y38.d.nd != y38.d.nd)) h109 rfl rfl rfl fun a110 h110 => ?_; clear h109
    refine dk0 24 (v := .bool (y38.d.nd != y38.d.nd)) h110 rfl rfl rfl fun a111 h111 => ?_; clear h110
    have hc112 : (y38.d.nd != y38.d.nd) = false := by simp
    rw [hc112] at h111; clear hc112
    refine dk0 25 (v := v) h111 rfl rfl rfl fun a113 h113 => ?_; clear h111
    refine dk0 26 (v := .int .i64 ((i : Nat) : Int)) h113 rfl rfl rfl fun a114 h114 => ?_; clear h113
    refine dk 27 (v := pt (blkOf v) (offOf v + i * 10)) h114 rfl rfl rfl (fun x hx => by subst hx; exact (rn_index rfl rfl rfl Try.underlying50 Try.sizeOf60 (hs.below hB87) (by omega) (by first | omega | (simp; done) | (simp; omega)))) fun a115 h115 => ?_; clear h114
    refine dk0 28 (v := pt (blkOf v) (offOf v + i * 10 + 2)) h115 rfl rfl rfl fun a116 h116 => ?_; clear h115
    refine dk 29 (v := .int .i64 y38.d.n) h116 rfl rfl rfl (fun x hx => by subst hx; exact (rn_load1 rfl rfl Try.isAgg3 ((sl_at (hs.below hB87) hy38) 2 _ rfl))) fun a117 h117 => ?_; clear h116
    refine dk0 30 (v := v2) h117 rfl rfl rfl fun a118 h118 => ?_; clear h117
    refine dk0 31 (v := .int .i64 ((i : Nat) : Int)) h118 rfl rfl rfl fun a119 h119 => ?_; clear h118
    refine dk 32 (v := pt (blkOf v2) (offOf v2 + i * 10)) h119 rfl rfl rfl (fun x hx => by subst hx; exact (rn_index rfl rfl rfl Try.underlying50 Try.sizeOf60 (hs2.below hB87) (by omega) (by first | omega | (simp; done) | (simp; omega)))) fun a120 h120 => ?_; clear h119
    refine dk0 33 (v := pt (blkOf v2) (offOf v2 + i * 10 + 2)) h120 rfl rfl rfl fun a121 h121 => ?_; clear h120
    refine dk 34 (v := .int .i64 y38.d.n) h121 rfl rfl rfl (fun x hx => by subst hx; exact (rn_load1 rfl rfl Try.isAgg3 ((sl_at (hs2.below hB87) hy59) 2 _ rfl))) fun a122 h122 => ?_; clear h121
    refine dk0 35 (v := .bool (y38.d.n != y38.d.n)) h122 rfl rfl rfl fun a123 h123 => ?_; clear h122
    refine dk0 36 (v := .bool (y38.d.n != y38.d.n)) h123 rfl rfl rfl fun a124 h124 => ?_; clear h123
    refine dk0 37 (v := .bool (y38.d.n != y38.d.n)) h124 rfl rfl rfl fun a125 h125 => ?_; clear h124
    have hc126 : (y38.d.n != y38.d.n) = false := by simp
    rw [hc126] at h125; clear hc126
    refine dk0 38 (v := pt N44 0) h125 rfl rfl rfl fun a127 h127 => ?_; clear h125
    have hk128 := hk52'.kept hg69 (by simp)
    have hk129 := hk128.kept hg78 (by simp; omega)
    have hk130 := hk129.kept hg82 (by simp)
    refine dk 39 (v := .int .i64 y38.d.ak) h127 rfl rfl rfl (fun x hx => by subst hx; exact (rn_load1 rfl rfl Try.isAgg3 (hk130.cell rfl))) fun a131 h131 => ?_; clear h127
    refine dk0 40 (v := pt N68 0) h131 rfl rfl rfl fun a132 h132 => ?_; clear h131
    have hk133 := hk76'.kept hg82 (by simp)
    refine dk 41 (v := .int .i64 y38.d.ak) h132 rfl rfl rfl (fun x hx => by subst hx; exact (rn_load1 rfl rfl Try.isAgg3 (hk133.cell rfl))) fun a134 h134 => ?_; clear h132
    refine dk0 42 (v := .bool (y38.d.ak != y38.d.ak)) h134 rfl rfl rfl fun a135 h135 => ?_; clear h134
    refine dk0 43 (v := .bool (y38.d.ak != y38.d.ak)) h135 rfl rfl rfl fun a136 h136 => ?_; clear h135
    refine dk0 44 (v := .bool (y38.d.ak != y38.d.ak)) h136 rfl rfl rfl fun a137 h137 => ?_; clear h136
    have hc138 : (y38.d.ak != y38.d.ak) = false := by simp
    rw [hc138] at h137; clear hc138
    refine dk0 45 (v := pt N44 1) h137 rfl rfl rfl fun a139 h139 => ?_; clear h137
    refine dk 46 (v := .int .i64 y38.d.an) h139 rfl rfl rfl (fun x hx => by subst hx; exact (rn_load1 rfl rfl Try.isAgg3 (hk130.cell rfl))) fun a140 h140 => ?_; clear h139
    refine dk0 47 (v := pt N68 1) h140 rfl rfl rfl fun a141 h141 => ?_; clear h140
    refine dk 48 (v := .int .i64 y38.d.an) h141 rfl rfl rfl (fun x hx => by subst hx; exact (rn_load1 rfl rfl Try.isAgg3 (hk133.cell rfl))) fun a142 h142 => ?_; clear h141
    refine dk0 49 (v := .bool (y38.d.an != y38.d.an)) h142 rfl rfl rfl fun a143 h143 => ?_; clear h142
    refine dk0 50 (v := .bool (y38.d.an != y38.d.an)) h143 rfl rfl rfl fun a144 h144 => ?_; clear h143
    refine dk0 51 (v := .bool (y38.d.an != y38.d.an)) h144 rfl rfl rfl fun a145 h145 => ?_; clear h144
    have hc146 : (y38.d.an != y38.d.an) = false := by simp
    rw [hc146] at h145; clear hc146
    refine dk0 52 (v := pt N44 5) h145 rfl rfl rfl fun a147 h147 => ?_; clear h145
    refine dk 53 (v := .int .i64 y38.d.am) h147 rfl rfl rfl (fun x hx => by subst hx; exact (rn_load1 rfl rfl Try.isAgg3 (hk130.cell rfl))) fun a148 h148 => ?_; clear h147
    refine dk0 54 (v := pt N68 5) h148 rfl rfl rfl fun a149 h149 => ?_; clear h148
    refine dk 55 (v := .int .i64 y38.d.am) h149 rfl rfl rfl (fun x hx => by subst hx; exact (rn_load1 rfl rfl Try.isAgg3 (hk133.cell rfl))) fun a150 h150 => ?_; clear h149
    refine dk0 56 (v := .bool (y38.d.am != y38.d.am)) h150 rfl rfl rfl fun a151 h151 => ?_; clear h150
    refine dk0 57 (v := .bool (y38.d.am != y38.d.am)) h151 rfl rfl rfl fun a152 h152 => ?_; clear h151
    refine dk0 58 (v := .bool (y38.d.am != y38.d.am)) h152 rfl rfl rfl fun a153 h153 => ?_; clear h152
    have hc154 : (y38.d.am != y38.d.am) = false := by simp
    rw [hc154] at h153; clear hc154
    refine dk0 59 (v := pt N44 4) h153 rfl rfl rfl fun a155 h155 => ?_; clear h153
    refine dk 60 (v := .int .u64 y38.d.at_) h155 rfl rfl rfl (fun x hx => by subst hx; exact (rn_load1 rfl rfl Try.isAgg23 (hk130.cell rfl))) fun a156 h156 => ?_; clear h155
    refine dk0 61 (v := pt N68 4) h156 rfl rfl rfl fun a157 h157 => ?_; clear h156
    refine dk 62 (v := .int .u64 y38.d.at_) h157 rfl rfl rfl (fun x hx => by subst hx; exact (rn_load1 rfl rfl Try.isAgg23 (hk133.cell rfl))) fun a158 h158 => ?_; clear h157
    refine dk0 63 (v := .bool (y38.d.at_ != y38.d.at_)) h158 rfl rfl rfl fun a159 h159 => ?_; clear h158
    refine dk0 64 (v := .bool (y38.d.at_ != y38.d.at_)) h159 rfl rfl rfl fun a160 h160 => ?_; clear h159
    refine dk0 65 (v := .bool (y38.d.at_ != y38.d.at_)) h160 rfl rfl rfl fun a161 h161 => ?_; clear h160
    have hc162 : (y38.d.at_ != y38.d.at_) = false := by simp
    rw [hc162] at h161; clear hc162
    refine dk0 66 (v := pt N44 2) h161 rfl rfl rfl fun a163 h163 => ?_; clear h161
    refine dk 67 (v := .string y38.d.ky) h163 rfl rfl rfl (fun x hx => by subst hx; exact (rn_load1 rfl rfl Try.isAgg9 (hk130.cell rfl))) fun a164 h164 => ?_; clear h163
    refine dk0 68 (v := pt N68 2) h164 rfl rfl rfl fun a165 h165 => ?_; clear h164
    refine dk 69 (v := .string y38.d.ky) h165 rfl rfl rfl (fun x hx => by subst hx; exact (rn_load1 rfl rfl Try.isAgg9 (hk133.cell rfl))) fun a166 h166 => ?_; clear h165
    refine dk0 70 (v := .bool (!(y38.d.ky.toList == y38.d.ky.toList))) h166 rfl rfl rfl fun a167 h167 => ?_; clear h166
    refine dk0 71 (v := .bool (!(y38.d.ky.toList == y38.d.ky.toList))) h167 rfl rfl rfl fun a168 h168 => ?_; clear h167
    refine dk0 72 (v := .bool (!(y38.d.ky.toList == y38.d.ky.toList))) h168 rfl rfl rfl fun a169 h169 => ?_; clear h168
    have hc170 : (!(y38.d.ky.toList == y38.d.ky.toList)) = false := by simp
    rw [hc170] at h169; clear hc170
    refine dk0 73 (v := pt N44 3) h169 rfl rfl rfl fun a171 h171 => ?_; clear h169
    refine dk 74 (v := .string y38.d.tt) h171 rfl rfl rfl (fun x hx => by subst hx; exact (rn_load1 rfl rfl Try.isAgg9 (hk130.cell rfl))) fun a172 h172 => ?_; clear h171
    refine dk0 75 (v := pt N68 3) h172 rfl rfl rfl fun a173 h173 => ?_; clear h172
    refine dk 76 (v := .string y38.d.tt) h173 rfl rfl rfl (fun x hx => by subst hx; exact (rn_load1 rfl rfl Try.isAgg9 (hk133.cell rfl))) fun a174 h174 => ?_; clear h173
    refine dk0 77 (v := .bool (!(y38.d.tt.toList == y38.d.tt.toList))) h174 rfl rfl rfl fun a175 h175 => ?_; clear h174
    refine dk0 78 (v := .bool (!(y38.d.tt.toList == y38.d.tt.toList))) h175 rfl rfl rfl fun a176 h176 => ?_; clear h175
    refine dk0 79 (v := .bool (!(y38.d.tt.toList == y38.d.tt.toList))) h176 rfl rfl rfl fun a177 h177 => ?_; clear h176
    have hc178 : (!(y38.d.tt.toList == y38.d.tt.toList)) = false := by simp
    rw [hc178] at h177; clear hc178
    refine dk0 80 (v := pt N44 6) h177 rfl rfl rfl fun a179 h179 => ?_; clear h177
    refine dk 81 (v := y38.ov) h179 rfl rfl rfl (fun x hx => by subst hx; exact (rn_load1 rfl rfl Try.isAgg24 (hk130.cell rfl))) fun a180 h180 => ?_; clear h179
    refine dk 82 (v := .int .i64 ((y38.d.ops.length : Nat) : Int)) h180 rfl rfl rfl (fun x hx => by subst hx; exact (rn_len rfl rfl Try.underlying24 (oky38.sl.below hB87))) fun a181 h181 => ?_; clear h180
    refine dk0 83 (v := pt N68 6) h181 rfl rfl rfl fun a182 h182 => ?_; clear h181
    refine dk 84 (v := zo61) h182 rfl rfl rfl (fun x hx => by subst hx; exact (rn_load1 rfl rfl Try.isAgg24 (hk133.cell rfl))) fun a183 h183 => ?_; clear h182
    refine dk 85 (v := .int .i64 ((y38.d.ops.length : Nat) : Int)) h183 rfl rfl rfl (fun x hx => by subst hx; exact (rn_len rfl rfl Try.underlying24 (oky59.sl.below hB87))) fun a184 h184 => ?_; clear h183
    refine dk0 86 (v := .bool (((y38.d.ops.length : Nat) : Int) != ((y38.d.ops.length : Nat) : Int))) h184 rfl rfl rfl fun a185 h185 => ?_; clear h184
    refine dk0 87 (v := .bool (((y38.d.ops.length : Nat) : Int) != ((y38.d.ops.length : Nat) : Int))) h185 rfl rfl rfl fun a186 h186 => ?_; clear h185
    refine dr_done (by kernel_rfl) ?_
    refine co_then ?_
    have hc187 : (((y38.d.ops.length : Nat) : Int) != ((y38.d.ops.length : Nat) : Int)) = false := by simp
    rw [hc187] at h186; clear hc187
    refine co_false h186 rfl ?_
    refine wp_skip ?_
    refine co_then ?_
    refine co_seq ?_
    refine co_reg ?_
    refine pk0 (v := .int .i64 0) h186 rfl fun a188 h188 => ?_; clear h186
    refine pl_nil ?_
    refine co_then ?_
    refine wp_block ?_
    have h189 : Slots 149 [(0, v), (1, v2), (5, .int .i64 ((i : Nat) : Int)), (6, pt N44 0), (7, pt N68 0), (8, .int .i64 0)] _ := h188.sub ⟨rfl, rfl, rfl, rfl, rfl, rfl, trivial⟩; clear h188
    refine co_loop (fun mm a x => ∃ (k : Nat), Slots 149 [(0, v), (1, v2), (5, .int .i64 ((i : Nat) : Int)), (6, pt N44 0), (7, pt N68 0), (8, .int .i64 ((k : Nat) : Int))] a ∧ mm = y38.d.ops.length - k ∧ (k ≤ y38.d.ops.length) ∧ Below w.heap.size w x ∧ Blk x N44 35 #[.int .i64 y38.d.ak, .int .i64 y38.d.an, .string y38.d.ky, .string y38.d.tt, .int .u64 y38.d.at_, .int .i64 y38.d.am, y38.ov] ∧ Blk x N68 35 #[.int .i64 y38.d.ak, .int .i64 y38.d.an, .string y38.d.ky, .string y38.d.tt, .int .u64 y38.d.at_, .int .i64 y38.d.am, zo61]) (y38.d.ops.length - 0) ?_ ?_
    · exact ⟨0, h189.sub ⟨rfl, rfl, rfl, rfl, rfl, (slot_eq rfl (congrArg (Value.int .i64) (by first | rfl | omega))), trivial⟩, rfl, by omega, hB87, hk130, hk133⟩
    · rintro k190 a191 w192 ⟨k, h191, rfl, hi193, hB194, hk195, hk196⟩
      have hz197 := hB194.size
      have hl198 := hk195.lt
      have hl199 := hk196.lt
      refine co_seq ?_
      refine co_seq ?_
      refine co_reg ?_
      refine pk0 (v := .int .i64 ((k : Nat) : Int)) h191 rfl fun a200 h200 => ?_; clear h191
      refine pk0 (v := pt N44 6) h200 rfl fun a201 h201 => ?_; clear h200
      refine pk (v := y38.ov) h201 rfl (rn_load1 rfl rfl Try.isAgg24 (hk195.cell rfl)) fun a202 h202 => ?_; clear h201
      refine pk (v := .int .i64 ((y38.d.ops.length : Nat) : Int)) h202 rfl (rn_len rfl rfl Try.underlying24 (oky38.sl.below hB194)) fun a203 h203 => ?_; clear h202
      refine pk0 (v := .bool (decide (((k : Nat) : Int) < ((y38.d.ops.length : Nat) : Int)))) h203 rfl fun a204 h204 => ?_; clear h203
      refine pk0 (v := .bool (decide (((k : Nat) : Int) < ((y38.d.ops.length : Nat) : Int)))) h204 rfl fun a205 h205 => ?_; clear h204
      cases hc206 : (decide (((k : Nat) : Int) < ((y38.d.ops.length : Nat) : Int)))
      ·
       rw [hc206] at h205
       have hp207 : ¬ (((k : Nat) : Int) < ((y38.d.ops.length : Nat) : Int)) := of_decide_eq_false hc206
       clear hc206
       refine psk h205 rfl fun a208 h208 => ?_; clear h205
       refine psk h208 rfl fun a209 h209 => ?_; clear h208
       refine psk h209 rfl fun a210 h210 => ?_; clear h209
       refine psk h210 rfl fun a211 h211 => ?_; clear h210
       refine psk h211 rfl fun a212 h212 => ?_; clear h211
       refine pk0 (v := .bool false) h212 rfl fun a213 h213 => ?_; clear h212
       refine pl_nil ?_
       refine co_then ?_
       refine co_false h213 rfl ?_
       refine wp_exit ?_
       refine co_thenX ?_
       refine co_thenX ?_
       refine co_blockX ?_
       refine co_blockN ?_
       refine co_then ?_
       refine co_reg ?_
       refine pk0 (v := .int .i64 ((i : Nat) : Int)) h213 rfl fun a214 h214 => ?_; clear h213
       refine pk (v := .int .i64 ((i + 1 : Nat) : Int)) h214 rfl (rn_arith' rfl rfl rfl rfl rfl rfl (IntWalk.i64_in _ (by omega)) (by omega)) fun a215 h215 => ?_; clear h214
       refine pk0 (v := .int .i64 ((i + 1 : Nat) : Int)) h215 rfl fun a216 h216 => ?_; clear h215
       refine pl_nil ?_
       refine co_then ?_
       refine ⟨(l.length - (i + 1)), by omega, ?_⟩
       exact ⟨i + 1, h216.sub ⟨rfl, rfl, rfl, trivial⟩, rfl, by omega, hB194⟩
      ·
       rw [hc206] at h205
       have hp217 : ((k : Nat) : Int) < ((y38.d.ops.length : Nat) : Int) := of_decide_eq_true hc206
       clear hc206
       refine pk0 (v := .int .i64 ((k : Nat) : Int)) h205 rfl fun a218 h218 => ?_; clear h205
       refine pk0 (v := pt N68 6) h218 rfl fun a219 h219 => ?_; clear h218
       refine pk (v := zo61) h219 rfl (rn_load1 rfl rfl Try.isAgg24 (hk196.cell rfl)) fun a220 h220 => ?_; clear h219
       refine pk (v := .int .i64 ((y38.d.ops.length : Nat) : Int)) h220 rfl (rn_len rfl rfl Try.underlying24 (oky59.sl.below hB194)) fun a221 h221 => ?_; clear h220
       refine pk0 (v := .bool (decide (((k : Nat) : Int) < ((y38.d.ops.length : Nat) : Int)))) h221 rfl fun a222 h222 => ?_; clear h221
       refine pk0 (v := .bool (decide (((k : Nat) : Int) < ((y38.d.ops.length : Nat) : Int)))) h222 rfl fun a223 h223 => ?_; clear h222
       refine pl_nil ?_
       refine co_then ?_
       have hc224 : (decide (((k : Nat) : Int) < ((y38.d.ops.length : Nat) : Int))) = true := decide_eq_true (by omega)
       rw [hc224] at h223; clear hc224
       refine co_true h223 rfl ?_
       refine wp_skip ?_
       refine co_then ?_
       refine co_seq ?_
       refine wp_block ?_
       refine co_seq ?_
       refine dr_eq (by kernel_rfl) (fun w225 hg226 => ?_)
       have hz227 := hg226.size
       refine dk0 0 (v := pt N44 6) h223 rfl rfl rfl fun a228 h228 => ?_; clear h223
       have hk229 := hk195.kept hg226 (by simp)
       refine dk 1 (v := y38.ov) h228 rfl rfl rfl (fun x hx => by subst hx; exact (rn_load1 rfl rfl Try.isAgg24 (hk229.cell rfl))) fun a230 h230 => ?_; clear h228
       refine dk0 2 (v := .int .i64 ((k : Nat) : Int)) h230 rfl rfl rfl fun a231 h231 => ?_; clear h230
       have hB233 := hb_new hB194 hg226
       obtain ⟨y232, hy232⟩ : ∃ z, y38.d.ops[k]? = some z := ⟨_, List.getElem?_eq_getElem (by first | omega | (simp; done) | (simp; omega))⟩
       refine dk 3 (v := pt (blkOf (y38.ov)) (offOf (y38.ov) + k * 3)) h231 rfl rfl rfl (fun x hx => by subst hx; exact (rn_index rfl rfl rfl Try.underlying24 Try.sizeOf66 (oky38.sl.below hB233) (by omega) (by first | omega | (simp; done) | (simp; omega)))) fun a234 h234 => ?_; clear h231
       refine dk 4 (v := .agg #[.string y232.1, .string y232.2.1, .bool y232.2.2]) h234 rfl rfl rfl (fun x hx => by subst hx; exact (rn_loadN rfl rfl Try.underlying66 rfl (by kernel_rfl) (sl_at (oky38.sl.below hB233) hy232))) fun a235 h235 => ?_; clear h234
       refine dk0 5 (v := pt N68 6) h235 rfl rfl rfl fun a236 h236 => ?_; clear h235
       have hk237 := hk196.kept hg226 (by simp)
       refine dk 6 (v := zo61) h236 rfl rfl rfl (fun x hx => by subst hx; exact (rn_load1 rfl rfl Try.isAgg24 (hk237.cell rfl))) fun a238 h238 => ?_; clear h236
       refine dk0 7 (v := .int .i64 ((k : Nat) : Int)) h238 rfl rfl rfl fun a239 h239 => ?_; clear h238
       refine dk 8 (v := pt (blkOf zo61) (offOf zo61 + k * 3)) h239 rfl rfl rfl (fun x hx => by subst hx; exact (rn_index rfl rfl rfl Try.underlying24 Try.sizeOf66 (oky59.sl.below hB233) (by omega) (by first | omega | (simp; done) | (simp; omega)))) fun a240 h240 => ?_; clear h239
       refine dk 9 (v := .agg #[.string y232.1, .string y232.2.1, .bool y232.2.2]) h240 rfl rfl rfl (fun x hx => by subst hx; exact (rn_loadN rfl rfl Try.underlying66 rfl (by kernel_rfl) (sl_at (oky59.sl.below hB233) hy232))) fun a241 h241 => ?_; clear h240
       refine dk 10 (v := .bool (!(y232.1.toList == y232.1.toList && y232.2.1.toList == y232.2.1.toList && y232.2.2 == y232.2.2))) h241 rfl rfl rfl (fun x hx => by subst hx; exact (rn_neS rfl rfl rfl Try.eqGuardType66 (eq_op _ _ _ _ _ _ _))) fun a242 h242 => ?_; clear h241
       refine dr_done (by kernel_rfl) ?_
       refine co_then ?_
       have hc243 : (!(y232.1.toList == y232.1.toList && y232.2.1.toList == y232.2.1.toList && y232.2.2 == y232.2.2)) = false := by simp
       rw [hc243] at h242; clear hc243
       refine co_false h242 rfl ?_
       refine wp_skip ?_
       refine co_blockN ?_
       refine co_then ?_
       refine co_reg ?_
       refine pk0 (v := .int .i64 ((k : Nat) : Int)) h242 rfl fun a244 h244 => ?_; clear h242
       refine pk (v := .int .i64 ((k + 1 : Nat) : Int)) h244 rfl (rn_arith' rfl rfl rfl rfl rfl rfl (IntWalk.i64_in _ (by omega)) (by omega)) fun a245 h245 => ?_; clear h244
       refine pk0 (v := .int .i64 ((k + 1 : Nat) : Int)) h245 rfl fun a246 h246 => ?_; clear h245
       refine pl_nil ?_
       refine co_then ?_
       refine ⟨(y38.d.ops.length - (k + 1)), by omega, ?_⟩
       exact ⟨k + 1, h246.sub ⟨rfl, rfl, rfl, rfl, rfl, rfl, trivial⟩, rfl, by omega, hB233, hk229, hk237⟩
end Go.Proofs.Ytdgboikkgeioeaa
