/- Put together: NoteH, NoteI, NoteJ, NoteK. Conditions: as each says. -/
import Derived.Test.YteioaaegooebpaaNb4
import Derived.Test.YteioaaegooebpaaNb6
import Derived.Test.YteioaaegooebpaaOpsN0
import Derived.Test.YteioaaegooebpaaConfJ
/- Notes: what is put is read, with its own parts; without the program. Conditions: none. -/
namespace Go.Proofs.Yteioaaegooebpaa
open Go.RowKit Go.PlainAid
set_option linter.unusedVariables false


def cleanN (d : NoteD) : NoteD :=
  if d.k = 1 then zC d.k (d.ep, d.ms, d.fl) d.lg
  else if d.k = 2 then zE d.k d.n (d.ec, d.er, d.el, d.ets)
  else if d.k = 3 ∨ d.k = 4 then zT d.k d.n d.t
  else if d.k = 5 ∨ d.k = 7 then zT d.k d.n 0
  else if d.k = 6 then zP d.k d.pid d.pat d.plf
  else if d.k = 8 then zS d.k d.sc d.sr d.se d.sp else zN 0
theorem cl_1 {d : NoteD} (h : d.k = 1) : cleanN d = zC d.k (d.ep, d.ms, d.fl) d.lg := by unfold cleanN; rw [if_pos h]
theorem cl_2 {d : NoteD} (h : d.k = 2) : cleanN d = zE d.k d.n (d.ec, d.er, d.el, d.ets) := by unfold cleanN; rw [if_neg (by omega), if_pos h]
theorem cl_3 {d : NoteD} (h : d.k = 3 ∨ d.k = 4) : cleanN d = zT d.k d.n d.t := by unfold cleanN; rw [if_neg (by omega), if_neg (by omega), if_pos h]
theorem cl_5 {d : NoteD} (h : d.k = 5 ∨ d.k = 7) : cleanN d = zT d.k d.n 0 := by unfold cleanN; rw [if_neg (by omega), if_neg (by omega), if_neg (by omega), if_pos h]
theorem cl_6 {d : NoteD} (h : d.k = 6) : cleanN d = zP d.k d.pid d.pat d.plf := by unfold cleanN; rw [if_neg (by omega), if_neg (by omega), if_neg (by omega), if_neg (by omega), if_pos h]
theorem cl_8 {d : NoteD} (h : d.k = 8) : cleanN d = zS d.k d.sc d.sr d.se d.sp := by unfold cleanN; rw [if_neg (by omega), if_neg (by omega), if_neg (by omega), if_neg (by omega), if_neg (by omega), if_pos h]
theorem cl_0 {d : NoteD} (h : ¬ (1 ≤ d.k ∧ d.k ≤ 8)) : cleanN d = zN 0 := by unfold cleanN; rw [if_neg (by omega), if_neg (by omega), if_neg (by omega), if_neg (by omega), if_neg (by omega), if_neg (by omega)]
theorem clean_R {d : NoteD} (h : NoteR d) : NoteR (cleanN d) := by
  have c0 : (-9223372036854775808 : Int) ≤ 0 ∧ (0 : Int) ≤ 9223372036854775807 := by decide
  have u0 : (0 : Int) ≤ 0 ∧ (0 : Int) < 18446744073709551616 := by decide
  obtain ⟨h1, h2, h3, h4, h5, h6⟩ := h
  unfold cleanN
  split
  · exact ⟨h1, h2, h3, u0, u0, u0⟩
  split
  · exact ⟨by simp [zE], c0, u0, u0, h5, u0⟩
  split
  · exact ⟨by simp [zT], c0, u0, h4, u0, u0⟩
  split
  · exact ⟨by simp [zT], c0, u0, u0, u0, u0⟩
  split
  · exact ⟨by simp [zP], c0, u0, u0, u0, h6⟩
  split
  · exact ⟨by simp [zS], c0, u0, u0, u0, u0⟩
  · exact zN_R 0
theorem chkN_clean {d : NoteD} (h : chkN d = 0) : chkN (cleanN d) = 0 := by
  have hk := (chkN_ok h).1
  rcases (show d.k = 1 ∨ d.k = 2 ∨ (d.k = 3 ∨ d.k = 4) ∨ (d.k = 5 ∨ d.k = 7) ∨ d.k = 6 ∨ d.k = 8 by omega) with e | e | e | e | e | e
  · rw [cl_1 e, chkN_1 (show (zC d.k (d.ep, d.ms, d.fl) d.lg).k = 1 from e)]; rw [chkN_1 e] at h; exact h
  · rw [cl_2 e, chkN_2 (show (zE d.k d.n (d.ec, d.er, d.el, d.ets)).k = 2 from e)]; rw [chkN_2 e] at h; exact h
  · rw [cl_3 e, chkN_3 (show (zT d.k d.n d.t).k = 3 ∨ (zT d.k d.n d.t).k = 4 ∨ (zT d.k d.n d.t).k = 5 ∨ (zT d.k d.n d.t).k = 7 from by show d.k = 3 ∨ d.k = 4 ∨ d.k = 5 ∨ d.k = 7; omega)]; rw [chkN_3 (by omega)] at h; exact h
  · rw [cl_5 e, chkN_3 (show (zT d.k d.n 0).k = 3 ∨ (zT d.k d.n 0).k = 4 ∨ (zT d.k d.n 0).k = 5 ∨ (zT d.k d.n 0).k = 7 from by show d.k = 3 ∨ d.k = 4 ∨ d.k = 5 ∨ d.k = 7; omega)]; rw [chkN_3 (by omega)] at h; exact h
  · rw [cl_6 e, chkN_6 (show (zP d.k d.pid d.pat d.plf).k = 6 from e)]; rw [chkN_6 e] at h; exact h
  · rw [cl_8 e, chkN_8 (show (zS d.k d.sc d.sr d.se d.sp).k = 8 from e)]; rw [chkN_8 e] at h; exact h
theorem num_at {T : ByteArray} {a : Nat} {n m : Int} {rest : List UInt8} (h : has T a (putL n ++ rest)) (hs : a + (putL n ++ rest).length = T.size) (h0 : 0 ≤ n) (h1 : n ≤ m) (h2 : m ≤ 9223372036854775807) : ∃ b : Nat, numR T a 0 m = (n, (b : Int), 0) ∧ has T b rest ∧ b + rest.length = T.size := by
  rw [List.length_append] at hs
  obtain ⟨k1, k2⟩ := has_app h
  exact ⟨_, numR_of h0 h1 h2 k1 (by omega), k2, by omega⟩
theorem big_at {T : ByteArray} {a : Nat} {n : Int} {rest : List UInt8} (h : has T a (putL n ++ rest)) (hs : a + (putL n ++ rest).length = T.size) (h0 : 0 ≤ n) (h1 : n < 18446744073709551616) : ∃ b : Nat, bigR T a 0 = (n, (b : Int), 0) ∧ has T b rest ∧ b + rest.length = T.size := by
  rw [List.length_append] at hs
  obtain ⟨k1, k2⟩ := has_app h
  exact ⟨_, bigR_of h0 h1 k1 (by omega), k2, by omega⟩
theorem txt_at {T t : ByteArray} {a : Nat} {m : Int} {rest : List UInt8} (h : has T a (txt t ++ rest)) (hs : a + (txt t ++ rest).length = T.size) (h1 : (t.size : Int) ≤ m) (h2 : m ≤ 9223372036854775807) : ∃ b : Nat, textR T a 0 m = (t, (b : Int), 0) ∧ has T b rest ∧ b + rest.length = T.size := by
  rw [List.length_append] at hs
  obtain ⟨k1, k2⟩ := has_app h
  have e : (txt t).length = (putL (t.size : Int) ++ t.data.toList).length := rfl
  exact ⟨_, textR_of h1 h2 k1 (by omega), k2, by omega⟩
theorem rg_put {T : ByteArray} {a : Nat} (l : List Int) (hok : ∀ x ∈ l, 0 ≤ x ∧ x ≤ 3) (hh : has T a (l.flatMap putL)) (hs : a + (l.flatMap putL).length ≤ T.size) :
    ∀ i, i ≤ l.length → rgN T i ([], (a : Int), 0) = (l.take i, ((a + ((l.take i).flatMap putL).length : Nat) : Int), 0)
  | 0, _ => by simp [rgN]
  | i + 1, hi => by
    have ih := rg_put l hok hh hs i (by omega)
    have hy : l[i]? = some l[i] := List.getElem?_eq_getElem (by omega)
    have ht := takeI hy
    have hx := hok l[i] (List.getElem_mem _)
    have e : l.flatMap putL = (l.take i).flatMap putL ++ (putL l[i] ++ (l.drop (i + 1)).flatMap putL) := by
      have : l = l.take i ++ (l[i] :: l.drop (i + 1)) := by rw [← List.drop_eq_getElem_cons (by omega), List.take_append_drop]
      conv => lhs; rw [this]
      rw [List.flatMap_append, List.flatMap_cons]
    rw [e] at hh hs
    simp only [List.length_append] at hs
    obtain ⟨_, h2⟩ := has_app hh
    obtain ⟨h3, _⟩ := has_app h2
    rw [rgN_step ih (numR_of hx.1 hx.2 (by decide) h3 (by omega)), ht]
    have e2 : ((l.take i ++ [l[i]]).flatMap putL).length = ((l.take i).flatMap putL).length + (putL l[i]).length := by simp only [List.flatMap_append, List.length_append, List.flatMap_cons, List.flatMap_nil, List.append_nil]
    rw [e2]
    refine Prod.ext rfl (Prod.ext ?_ rfl)
    show ((a + ((l.take i).flatMap putL).length + (putL l[i]).length : Nat) : Int) = _
    rw [Nat.add_assoc]
theorem ofC_put {ep fl : Int} {ms : List MemT} (hc : chkC ep ms = 0) (h0 : 0 ≤ fl ∧ fl < 18446744073709551616) : ofC (putCf ep ms fl) = ((ep, ms, fl), 0) := by
  rw [putCf_ok hc]
  obtain ⟨h1, h2, h3, h4⟩ := cof_put hc h0.1 h0.2
  unfold ofC; rw [if_pos h1, h2, h3, h4]
theorem end_at {T : ByteArray} {b : Nat} (h : b + ([] : List UInt8).length = T.size) : endV T (b : Int).toNat 0 = 0 := by
  unfold endV; rw [if_pos rfl, if_neg (by simp at h ⊢; omega)]
theorem rd_put10 {d : NoteD} {T : ByteArray} {a : Nat} (h : chkN d = 0) (hR : NoteR d) (hh : has T a ((putNL d).drop (putL d.k).length)) (hs : a + ((putNL d).drop (putL d.k).length).length = T.size) : rdNote T d.k a 0 = (cleanN d, (T.size : Int), 0, 0) := by
  have hok := chkN_ok h
  obtain ⟨hmem, hep, hfl, ht, hets, hpat⟩ := hR
  have hdrop : (putNL d).drop (putL d.k).length = (if d.k = 1 then txt (putCf d.ep d.ms d.fl) ++ putL ((d.lg.length : Nat) : Int) ++ d.lg.flatMap putL
  else if d.k = 2 then putL d.n ++ txt (putE d.ec d.er d.el d.ets)
  else if d.k = 3 then putL d.n ++ putL d.t
  else if d.k = 4 then putL d.t ++ putL d.n
  else if d.k = 5 ∨ d.k = 7 then putL d.n
  else if d.k = 6 then putL d.pid ++ putL d.pat ++ putL d.plf
  else putL d.sc ++ putL d.sr ++ putL d.se ++ putL d.sp) := by unfold putNL; exact List.drop_left
  rw [hdrop] at hh hs
  obtain ⟨hk, o1, o2, o3, o6, o8⟩ := hok
  have fin : ∀ b : Nat, b + ([] : List UInt8).length = T.size → (b : Int) = T.size := fun b hb => by simp at hb; omega
  rcases (show d.k = 1 ∨ d.k = 2 ∨ d.k = 3 ∨ d.k = 4 ∨ (d.k = 5 ∨ d.k = 7) ∨ d.k = 6 ∨ d.k = 8 by omega) with e | e | e | e | e | e | e
  · obtain ⟨c1, c2, c3⟩ := o1 e
    rw [if_pos e, List.append_assoc] at hh hs
    have hsm := putCf_small (ep := d.ep) (ms := d.ms) (fl := d.fl)
    obtain ⟨b1, q1, k1, s1⟩ := txt_at (m := 65536) hh hs (by omega) (by decide)
    obtain ⟨b2, q2, k2, s2⟩ := num_at (m := 4) k1 s1 (by omega) (by omega) (by decide)
    have q3 := rg_put d.lg (chkLg_ok c2).2 k2 (by omega) d.lg.length (Nat.le_refl _)
    rw [List.take_of_length_le (Nat.le_refl _)] at q3
    have hC := ofC_put (fl := d.fl) c1 hfl
    have hw : whC T a 0 = ((d.ep, d.ms, d.fl), (b1 : Int), 0, 0) := by rw [whC_b q1 (by simp), hC]
    rw [rd_1b e hw (by simp) q2 q3 (by omega), cl_1 e, s2]
  · obtain ⟨c1, c2⟩ := o2 e
    rw [if_neg (by omega), if_pos e] at hh hs
    have hsm := putE_small (c := d.ec) (r := d.er) (l := d.el) (ts := d.ets)
    obtain ⟨b1, q1, k1, s1⟩ := num_at (m := 1073741824) hh hs c1.1 c1.2 (by decide)
    obtain ⟨b2, q2, k2, s2⟩ := txt_at (rest := []) (m := 65536) (by rw [List.append_nil]; exact k1) (by rw [List.append_nil]; exact s1) (by omega) (by decide)
    have hE := ofE_of c2 hets.1 hets.2
    have hw : whE T b1 0 = ((d.ec, d.er, d.el, d.ets), (b2 : Int), 0, 0) := by rw [whE_b q2 (by simp), hE]
    rw [rd_2 e q1 hw, cl_2 e, fin b2 s2]
  · rw [if_neg (by omega), if_neg (by omega), if_pos e] at hh hs
    obtain ⟨b1, q1, k1, s1⟩ := num_at (m := 1073741824) hh hs (o3 (by omega)).1 (o3 (by omega)).2 (by decide)
    obtain ⟨b2, q2, k2, s2⟩ := big_at (rest := []) (by rw [List.append_nil]; exact k1) (by rw [List.append_nil]; exact s1) ht.1 ht.2
    rw [rd_3 e q1 q2, cl_3 (by omega), fin b2 s2]
  · rw [if_neg (by omega), if_neg (by omega), if_neg (by omega), if_pos e] at hh hs
    obtain ⟨b1, q1, k1, s1⟩ := big_at hh hs ht.1 ht.2
    obtain ⟨b2, q2, k2, s2⟩ := num_at (rest := []) (m := 1073741824) (by rw [List.append_nil]; exact k1) (by rw [List.append_nil]; exact s1) (o3 (by omega)).1 (o3 (by omega)).2 (by decide)
    rw [rd_4 e q1 q2, cl_3 (by omega), fin b2 s2]
  · rw [if_neg (by omega), if_neg (by omega), if_neg (by omega), if_neg (by omega), if_pos e] at hh hs
    obtain ⟨b1, q1, k1, s1⟩ := num_at (rest := []) (m := 1073741824) (by rw [List.append_nil]; exact hh) (by rw [List.append_nil]; exact hs) (o3 (by omega)).1 (o3 (by omega)).2 (by decide)
    rw [rd_5 e q1, cl_5 e, fin b1 s1]
  · obtain ⟨c1, c2⟩ := o6 e
    rw [if_neg (by omega), if_neg (by omega), if_neg (by omega), if_neg (by omega), if_neg (by omega), if_pos e, List.append_assoc] at hh hs
    obtain ⟨b1, q1, k1, s1⟩ := num_at (m := 1073741824) hh hs c1.1 c1.2 (by decide)
    obtain ⟨b2, q2, k2, s2⟩ := big_at k1 s1 hpat.1 hpat.2
    obtain ⟨b3, q3, k3, s3⟩ := num_at (rest := []) (m := 1073741824) (by rw [List.append_nil]; exact k2) (by rw [List.append_nil]; exact s2) c2.1 c2.2 (by decide)
    rw [rd_6 e q1 q2 q3, cl_6 e, fin b3 s3]
  · obtain ⟨c1, c2, c3, c4⟩ := o8 e
    rw [if_neg (by omega), if_neg (by omega), if_neg (by omega), if_neg (by omega), if_neg (by omega), if_neg (by omega), List.append_assoc, List.append_assoc] at hh hs
    obtain ⟨b1, q1, k1, s1⟩ := num_at (m := 2) hh hs c1.1 c1.2 (by decide)
    obtain ⟨b2, q2, k2, s2⟩ := num_at (m := 1073741824) k1 s1 c2.1 c2.2 (by decide)
    obtain ⟨b3, q3, k3, s3⟩ := num_at (m := 21) k2 s2 c3.1 c3.2 (by decide)
    obtain ⟨b4, q4, k4, s4⟩ := num_at (rest := []) (m := 1073741824) (by rw [List.append_nil]; exact k3) (by rw [List.append_nil]; exact s3) c4.1 c4.2 (by decide)
    rw [rd_8 e q1 q2 q3 q4, cl_8 e, fin b4 s4]
theorem noteOf_put {d : NoteD} (h : chkN d = 0) (hR : NoteR d) : noteOf (putN d) = (cleanN d, 0) := by
  have hk := (chkN_ok h).1
  rw [putN_ok h]
  have hself := has_self (putNL d)
  have hsz : (⟨(putNL d).toArray⟩ : ByteArray).size = (putNL d).length := rfl
  generalize (⟨(putNL d).toArray⟩ : ByteArray) = T at hself hsz ⊢
  have hsplit : putNL d = putL d.k ++ (putNL d).drop (putL d.k).length := by unfold putNL; rw [List.drop_left]
  rw [hsplit] at hself
  obtain ⟨b1, q1, k1, s1⟩ := num_at (a := 0) (m := 8) hself (by rw [← hsplit]; omega) (by omega) hk.2 (by decide)
  have q1' : numR T 0 0 8 = (d.k, (b1 : Int), 0) := by simpa using q1
  have hr := rd_put10 h hR k1 s1
  refine nOf_q q1' (by simp) hk hr (nEnd_o (by simp) (x := 0) ?_ (by simp) ?_)
  · unfold endV; rw [if_pos rfl, if_neg (by simp)]
  · rw [chkN_clean h]; simp

end Go.Proofs.Yteioaaegooebpaa

/- catenalaw10: NoteBack. Conditions: none. -/
namespace Go.Proofs.Yteioaaegooebpaa
open Go.RowKit Go.PlainAid
set_option linter.unusedVariables false


def tailNL (d : NoteD) : List UInt8 :=
  (if d.k = 1 then txt (putCf d.ep d.ms d.fl) ++ putL ((d.lg.length : Nat) : Int) ++ d.lg.flatMap putL
  else if d.k = 2 then putL d.n ++ txt (putE d.ec d.er d.el d.ets)
  else if d.k = 3 then putL d.n ++ putL d.t
  else if d.k = 4 then putL d.t ++ putL d.n
  else if d.k = 5 ∨ d.k = 7 then putL d.n
  else if d.k = 6 then putL d.pid ++ putL d.pat ++ putL d.plf
  else putL d.sc ++ putL d.sr ++ putL d.se ++ putL d.sp)
theorem putNL_eq (d : NoteD) : putNL d = putL d.k ++ tailNL d := rfl
theorem num_e0 {s : ByteArray} {a x m n a1 e1 : Int} (h : numR s a x m = (n, a1, e1)) (h0 : e1 = 0) : x = 0 := by
  by_cases hx : x = 0
  · exact hx
  · rw [numR_err hx] at h; cases h; exact h0
theorem big_e0 {s : ByteArray} {a x n a1 e1 : Int} (h : bigR s a x = (n, a1, e1)) (h0 : e1 = 0) : x = 0 := by
  by_cases hx : x = 0
  · exact hx
  · rw [bigR_err hx] at h; cases h; exact h0
theorem txt_e0 {s t : ByteArray} {a x m a1 e1 : Int} (h : textR s a x m = (t, a1, e1)) (h0 : e1 = 0) : x = 0 := by
  by_cases hx : x = 0
  · exact hx
  · rw [textR_err hx] at h; cases h; exact h0
theorem bigE_at {s : ByteArray} {a : Nat} {x n a1 : Int} (h : bigR s a x = (n, a1, 0)) : ∃ b : Nat, a1 = b ∧ eats s a (putL n) b := by
  have h0 : (bigR s a x).2.2 = 0 := by rw [h]
  have := bigR_eats h0
  rw [h] at this; exact this.2
theorem numE_at {s : ByteArray} {a : Nat} {x m n a1 : Int} (h : numR s a x m = (n, a1, 0)) : ∃ b : Nat, a1 = b ∧ eats s a (putL n) b := (numR_at' h).2
theorem txtE_at {s t : ByteArray} {a : Nat} {x m a1 : Int} (h : textR s a x m = (t, a1, 0)) : ∃ b : Nat, a1 = b ∧ eats s a (txt t) b := by
  have h0 : (textR s a x m).2.2 = 0 := by rw [h]
  have := textR_eats h0
  rw [h] at this; exact this.2
theorem ofC_back {t : ByteArray} (h : (ofC t).2 = 0) : putCf (ofC t).1.1 (ofC t).1.2.1 (ofC t).1.2.2 = t := by
  unfold ofC at h ⊢
  by_cases he : ofErr t = 0
  · simp only [if_pos he] at h ⊢
    have := cof_back he
    rw [putCf_ok this.2]; exact this.1
  · simp only [if_neg he] at h; exact absurd h he
theorem rg_back {s : ByteArray} {a : Nat} {x : Int} : ∀ (i : Nat) (g : List Int) (p e : Int), rgN s i ([], (a : Int), x) = (g, p, e) → e = 0 → a ≤ s.size → x = 0 ∧ g.length = i ∧ ∃ b : Nat, p = b ∧ eats s a (g.flatMap putL) b
  | 0, g, p, e, h, he, ha => by
    cases h
    exact ⟨he, rfl, a, rfl, eats.nil ha⟩
  | i + 1, g, p, e, h, he, ha => by
    rcases hq : rgN s i ([], (a : Int), x) with ⟨g1, p1, e1⟩
    rcases hn : numR s p1 e1 3 with ⟨n, a2, e2⟩
    rw [rgN_step hq hn] at h
    cases h
    have h1 := num_e0 hn he
    obtain ⟨hx, hl, b, hb, hE⟩ := rg_back i g1 p1 e1 hq h1 ha
    subst hb he
    obtain ⟨b2, hb2, g2⟩ := numE_at hn
    refine ⟨hx, by simp [hl], b2, hb2, ?_⟩
    rw [List.flatMap_append, List.flatMap_cons, List.flatMap_nil, List.append_nil]
    exact hE.app g2
theorem rd_back {s : ByteArray} {k : Int} {b0 : Nat} (hb : b0 ≤ s.size) (hk : 1 ≤ k ∧ k ≤ 8) (hr : (rdNote s k b0 0).2.2.2 = 0) (hE : endV s (rdNote s k b0 0).2.1.toNat (rdNote s k b0 0).2.2.1 = 0) : eats s b0 (tailNL (rdNote s k b0 0).1) s.size ∧ (rdNote s k b0 0).1.k = k := by
  have fin : ∀ {b : Nat} {l : List UInt8}, eats s b0 l b → endV s ((b : Int)).toNat 0 = 0 → eats s b0 l s.size := fun {b l} h h2 => by
    have := (endV_eats (s := s) (a := b) (x := 0) (fun _ => h.2.1) (by simpa using h2)).2
    rw [← this]; exact h
  rcases (show k = 1 ∨ k = 2 ∨ k = 3 ∨ k = 4 ∨ (k = 5 ∨ k = 7) ∨ k = 6 ∨ k = 8 by omega) with e | e | e | e | e | e | e
  · rcases q1 : textR s b0 0 65536 with ⟨t, a1, e1⟩
    by_cases h1 : e1 ≠ 0
    · rw [rw_1a e q1 h1] at hr; exact absurd hr h1
    by_cases h2 : (ofC t).2 ≠ 0
    · rw [rw_1b e q1 h1 h2] at hr; exact absurd hr h2
    rcases q2 : numR s a1 e1 4 with ⟨n, a2, e2⟩
    rcases q3 : rgN s n.toNat ([], a2, e2) with ⟨g, a3, e3⟩
    have hrd := rw_1c e q1 h1 h2 q2 q3 rfl
    rw [hrd] at hr hE ⊢
    simp only at hr hE ⊢
    subst hr
    obtain rfl : e1 = 0 := by omega
    obtain ⟨b1, rfl, g1⟩ := txtE_at q1
    have hn0 := numR_le (s := s) (a := (b1 : Int)) (x := 0) (m := 4) (by omega)
    rw [q2] at hn0; simp only at hn0
    have he2 : e2 = 0 := by
      by_cases hx : e2 = 0
      · exact hx
      · have hall : ∀ i, (rgN s i ([], a2, e2)).2.2 = e2 := fun i => by
          induction i with
          | zero => rfl
          | succ i ih =>
            show (rgStep s (rgN s i ([], a2, e2))).2.2 = e2
            rcases hq : rgN s i ([], a2, e2) with ⟨ls, ps, er⟩
            rw [hq] at ih; simp only at ih
            subst ih
            simp only [rgStep, numR_err hx]
        have := hall n.toNat
        rw [q3] at this; exact this.symm
    subst he2
    obtain ⟨b2, rfl, g2⟩ := numE_at q2
    obtain ⟨_, hl, b3, rfl, g3⟩ := rg_back _ _ _ _ q3 rfl g2.2.1
    refine ⟨?_, rfl⟩
    have hP := ofC_back (t := t) (by omega)
    have ht : tailNL (zC k (ofC t).1 g) = txt t ++ putL n ++ g.flatMap putL := by
      unfold tailNL
      rw [if_pos (show (zC k (ofC t).1 g).k = 1 from e)]
      show txt (putCf (ofC t).1.1 (ofC t).1.2.1 (ofC t).1.2.2) ++ putL ((g.length : Nat) : Int) ++ _ = _
      rw [hP, hl, show ((n.toNat : Nat) : Int) = n by omega]; rfl
    rw [ht]
    exact fin ((g1.app g2).app g3) hE
  · rcases q1 : numR s b0 0 1073741824 with ⟨n, a1, e1⟩
    rcases q2 : textR s a1 e1 65536 with ⟨t, a2, e2⟩
    by_cases h1 : e2 ≠ 0
    · rw [rw_2a e q1 q2 h1] at hr; exact absurd hr h1
    have hrd := rw_2b e q1 q2 h1
    rw [hrd] at hr hE ⊢
    simp only at hr hE ⊢
    obtain rfl : e2 = 0 := by omega
    obtain rfl := txt_e0 q2 rfl
    obtain ⟨b1, rfl, g1⟩ := numE_at q1
    obtain ⟨b2, rfl, g2⟩ := txtE_at q2
    refine ⟨?_, rfl⟩
    have hP := (backE (s := t) hr).1
    have ht : tailNL (zE k n (ofE t).1) = putL n ++ txt t := by
      unfold tailNL
      rw [if_neg (show ¬ (zE k n (ofE t).1).k = 1 from by show ¬ k = 1; omega), if_pos (show (zE k n (ofE t).1).k = 2 from e)]
      show putL n ++ txt (putE (ofE t).1.1 (ofE t).1.2.1 (ofE t).1.2.2.1 (ofE t).1.2.2.2) = _
      rw [hP]
    rw [ht]
    exact fin (g1.app g2) hE
  · rcases q1 : numR s b0 0 1073741824 with ⟨n, a1, e1⟩
    rcases q2 : bigR s a1 e1 with ⟨t, a2, e2⟩
    have hrd := rd_3 e q1 q2
    rw [hrd] at hr hE ⊢
    simp only at hr hE ⊢
    subst hr
    obtain rfl := big_e0 q2 rfl
    obtain ⟨b1, rfl, g1⟩ := numE_at q1
    obtain ⟨b2, rfl, g2⟩ := bigE_at q2
    subst e
    exact ⟨fin (g1.app g2) hE, rfl⟩
  · rcases q1 : bigR s b0 0 with ⟨t, a1, e1⟩
    rcases q2 : numR s a1 e1 1073741824 with ⟨n, a2, e2⟩
    have hrd := rd_4 e q1 q2
    rw [hrd] at hr hE ⊢
    simp only at hr hE ⊢
    subst hr
    obtain rfl := num_e0 q2 rfl
    obtain ⟨b1, rfl, g1⟩ := bigE_at q1
    obtain ⟨b2, rfl, g2⟩ := numE_at q2
    subst e
    exact ⟨fin (g1.app g2) hE, rfl⟩
  · rcases q1 : numR s b0 0 1073741824 with ⟨n, a1, e1⟩
    have hrd := rd_5 e q1
    rw [hrd] at hr hE ⊢
    simp only at hr hE ⊢
    subst hr
    obtain ⟨b1, rfl, g1⟩ := numE_at q1
    refine ⟨?_, rfl⟩
    have ht : tailNL (zT k n 0) = putL n := by
      unfold tailNL
      rw [if_neg (show ¬ (zT k n 0).k = 1 from by show ¬ k = 1; omega), if_neg (show ¬ (zT k n 0).k = 2 from by show ¬ k = 2; omega), if_neg (show ¬ (zT k n 0).k = 3 from by show ¬ k = 3; omega), if_neg (show ¬ (zT k n 0).k = 4 from by show ¬ k = 4; omega), if_pos (show (zT k n 0).k = 5 ∨ (zT k n 0).k = 7 from e)]
      rfl
    rw [ht]
    exact fin g1 hE
  · rcases q1 : numR s b0 0 1073741824 with ⟨i, a1, e1⟩
    rcases q2 : bigR s a1 e1 with ⟨t, a2, e2⟩
    rcases q3 : numR s a2 e2 1073741824 with ⟨l, a3, e3⟩
    have hrd := rd_6 e q1 q2 q3
    rw [hrd] at hr hE ⊢
    simp only at hr hE ⊢
    subst hr
    obtain rfl := num_e0 q3 rfl
    obtain rfl := big_e0 q2 rfl
    obtain ⟨b1, rfl, g1⟩ := numE_at q1
    obtain ⟨b2, rfl, g2⟩ := bigE_at q2
    obtain ⟨b3, rfl, g3⟩ := numE_at q3
    subst e
    exact ⟨fin ((g1.app g2).app g3) hE, rfl⟩
  · rcases q1 : numR s b0 0 2 with ⟨c, a1, e1⟩
    rcases q2 : numR s a1 e1 1073741824 with ⟨r, a2, e2⟩
    rcases q3 : numR s a2 e2 21 with ⟨x, a3, e3⟩
    rcases q4 : numR s a3 e3 1073741824 with ⟨p, a4, e4⟩
    have hrd := rd_8 e q1 q2 q3 q4
    rw [hrd] at hr hE ⊢
    simp only at hr hE ⊢
    subst hr
    obtain rfl := num_e0 q4 rfl
    obtain rfl := num_e0 q3 rfl
    obtain rfl := num_e0 q2 rfl
    obtain ⟨b1, rfl, g1⟩ := numE_at q1
    obtain ⟨b2, rfl, g2⟩ := numE_at q2
    obtain ⟨b3, rfl, g3⟩ := numE_at q3
    obtain ⟨b4, rfl, g4⟩ := numE_at q4
    subst e
    exact ⟨fin (((g1.app g2).app g3).app g4) hE, rfl⟩
theorem noteOf_back {s : ByteArray} (h : (noteOf s).2 = 0) : putN (noteOf s).1 = s ∧ chkN (noteOf s).1 = 0 := by
  rcases q : numR s 0 0 8 with ⟨k, a, e⟩
  by_cases he : e ≠ 0
  · rw [nOf_e q he] at h; exact absurd h he
  by_cases hk : 1 ≤ k ∧ k ≤ 8
  · have hq := nOf_q' q he hk rfl
    rw [hq] at h ⊢
    obtain rfl : e = 0 := by omega
    by_cases h1 : (rdNote s k a 0).2.2.2 ≠ 0
    · rw [nEnd_r' h1] at h; exact absurd h h1
    by_cases h2 : endV s (rdNote s k a 0).2.1.toNat (rdNote s k a 0).2.2.1 ≠ 0
    · rw [nEnd_x' h1 rfl h2] at h; exact absurd h h2
    by_cases h3 : chkN (rdNote s k a 0).1 ≠ 0
    · rw [nEnd_c' h1 rfl h2 h3] at h; exact absurd h h3
    rw [nEnd_o' h1 rfl h2 h3]
    obtain ⟨b0, rfl, g0⟩ := numE_at (a := 0) (by simpa using q)
    obtain ⟨gt, hkk⟩ := rd_back g0.2.1 hk (by omega) (by omega)
    have hc : chkN (rdNote s k b0 0).1 = 0 := by omega
    refine ⟨?_, hc⟩
    rw [putN_ok hc, putNL_eq, hkk]
    exact eats.whole (g0.app gt)
  · rw [nOf_k q he hk] at h; simp at h
theorem noteOf_zero {s : ByteArray} (h : (noteOf s).2 ≠ 0) : (noteOf s).1 = zN 0 := by
  rcases q : numR s 0 0 8 with ⟨k, a, e⟩
  by_cases he : e ≠ 0
  · rw [nOf_e q he]
  by_cases hk : 1 ≤ k ∧ k ≤ 8
  · have hq := nOf_q' q he hk rfl
    rw [hq] at h ⊢
    by_cases h1 : (rdNote s k a e).2.2.2 ≠ 0
    · rw [nEnd_r' h1]
    by_cases h2 : endV s (rdNote s k a e).2.1.toNat (rdNote s k a e).2.2.1 ≠ 0
    · rw [nEnd_x' h1 rfl h2]
    by_cases h3 : chkN (rdNote s k a e).1 ≠ 0
    · rw [nEnd_c' h1 rfl h2 h3]
    rw [nEnd_o' h1 rfl h2 h3] at h; exact absurd rfl h
  · rw [nOf_k q he hk]
def CleanV (d : NoteD) (mv lv ev cm cl ce : Value) : Prop := (∀ x, SliceOf memE 2 x mv d.ms → SliceOf memE 2 x cm (cleanN d).ms) ∧ (∀ x, SliceOf (intE .i64) 1 x lv d.lg → SliceOf (intE .i64) 1 x cl (cleanN d).lg) ∧ (∀ x, SliceOf opE 3 x ev d.el → SliceOf opE 3 x ce (cleanN d).el)
theorem putN_sz {d : NoteD} : (putN d).size ≤ 9223372036854775807 := by
  by_cases h : chkN d = 0
  · rw [putN_ok h]
    show (putNL d).length ≤ _
    have hok := chkN_ok h
    have hsm1 := putCf_small (ep := d.ep) (ms := d.ms) (fl := d.fl)
    have hsm2 := putE_small (c := d.ec) (r := d.er) (l := d.el) (ts := d.ets)
    have hg : ∀ l : List Int, (l.flatMap putL).length ≤ 9 * l.length := fun l => by
      induction l with
      | nil => simp
      | cons x r ih => rw [List.flatMap_cons, List.length_append, List.length_cons]; have := putL_le x; omega
    have h0 := putL_le d.k; have h1 := putL_le d.n; have h2 := putL_le d.t; have h3 := putL_le d.pid; have h4 := putL_le d.pat; have h5 := putL_le d.plf; have h6 := putL_le d.sc; have h7 := putL_le d.sr; have h8 := putL_le d.se; have h9 := putL_le d.sp; have hl := putL_le ((d.lg.length : Nat) : Int); have hgl := hg d.lg
    have ht1 : (txt (putCf d.ep d.ms d.fl)).length ≤ 209 := by unfold txt; have := putL_le ((putCf d.ep d.ms d.fl).size : Int); simp only [List.length_append, Array.length_toList, ByteArray.size_data]; omega
    have ht2 : (txt (putE d.ec d.er d.el d.ets)).length ≤ 229 := by unfold txt; have := putL_le ((putE d.ec d.er d.el d.ets).size : Int); simp only [List.length_append, Array.length_toList, ByteArray.size_data]; omega
    rw [putNL_eq, List.length_append]
    unfold tailNL
    split
    · rename_i e; have := (hok.2.1 e).2.2; simp only [List.length_append]; omega
    split
    · simp only [List.length_append]; omega
    split
    · simp only [List.length_append]; omega
    split
    · simp only [List.length_append]; omega
    split
    · omega
    split
    · simp only [List.length_append]; omega
    · simp only [List.length_append]; omega
  · rw [putN_err h]; decide

set_option maxRecDepth 100000 in
theorem rnClean_any (d : NoteD) (mv : Value) (lv : Value) (ev : Value) (w : World) (hm : SliceOf memE 2 w mv d.ms) (hg : SliceOf (intE .i64) 1 w lv d.lg) (he : SliceOf opE 3 w ev d.el) (hR : NoteR d) :
    Calls Try.prog 48 #[.agg #[.int .i64 d.k, .int .i64 d.n, .int .u64 d.t, .int .i64 d.ep, mv, .int .u64 d.fl, lv, .int .i64 d.ec, .int .i64 d.er, ev, .int .u64 d.ets, .int .i64 d.pid, .int .u64 d.pat, .int .i64 d.plf, .int .i64 d.sc, .int .i64 d.sr, .int .i64 d.se, .int .i64 d.sp]] w fun e w' => ∃ (cm : Value) (cl : Value) (ce : Value), e = .returned (.agg #[.int .i64 ((cleanN d).k), .int .i64 ((cleanN d).n), .int .u64 ((cleanN d).t), .int .i64 ((cleanN d).ep), cm, .int .u64 ((cleanN d).fl), cl, .int .i64 ((cleanN d).ec), .int .i64 ((cleanN d).er), ce, .int .u64 ((cleanN d).ets), .int .i64 ((cleanN d).pid), .int .u64 ((cleanN d).pat), .int .i64 ((cleanN d).plf), .int .i64 ((cleanN d).sc), .int .i64 ((cleanN d).sr), .int .i64 ((cleanN d).se), .int .i64 ((cleanN d).sp)]) ∧ CleanV d mv lv ev cm cl ce ∧ Below w.heap.size w w' := by
 have hB0 := Below.refl w.heap.size w
 have hl_hm := sl_len hm
 have hl_hg := sl_len hg
 have hl_he := sl_len he
 refine co_enter (n := 52) Try.func48 rfl rfl rfl [(0, .agg #[.int .i64 d.k, .int .i64 d.n, .int .u64 d.t, .int .i64 d.ep, mv, .int .u64 d.fl, lv, .int .i64 d.ec, .int .i64 d.er, ev, .int .u64 d.ets, .int .i64 d.pid, .int .u64 d.pat, .int .i64 d.plf, .int .i64 d.sc, .int .i64 d.sr, .int .i64 d.se, .int .i64 d.sp])] rfl (fun a h0 => ?_)
 refine co_seq ?_
 refine co_reg ?_
 refine pw h0 rfl (op_new (v := fun N => pt N 0) (T := 73) (cs := #[.int .i64 d.k, .int .i64 d.n, .int .u64 d.t, .int .i64 d.ep, mv, .int .u64 d.fl, lv, .int .i64 d.ec, .int .i64 d.er, ev, .int .u64 d.ets, .int .i64 d.pid, .int .u64 d.pat, .int .i64 d.plf, .int .i64 d.sc, .int .i64 d.sr, .int .i64 d.se, .int .i64 d.sp]) (by kernel_rfl) (by kernel_rfl) (by kernel_rfl)) ?_; clear h0
 rintro _ w2 a1 ⟨N3, rfl, hN6, hz7, hk5, hg4⟩ h1
 have hz8 := hg4.size
 try dsimp only at h1
 refine pw h1 rfl (op_new (v := fun N => pt N 0) (T := 73) (cs := #[.int .i64 0, .int .i64 0, .int .u64 0, .int .i64 0, .slice none 0 0, .int .u64 0, .slice none 0 0, .int .i64 0, .int .i64 0, .slice none 0 0, .int .u64 0, .int .i64 0, .int .u64 0, .int .i64 0, .int .i64 0, .int .i64 0, .int .i64 0, .int .i64 0]) (by kernel_rfl) (by kernel_rfl) (by kernel_rfl)) ?_; clear h1
 rintro _ w10 a9 ⟨N11, rfl, hN14, hz15, hk13, hg12⟩ h9
 have hz16 := hg12.size
 try dsimp only at h9
 refine pl_nil ?_
 refine co_then ?_
 refine co_seq ?_
 refine co_reg ?_
 refine pk0 (v := pt N3 0) h9 rfl fun a17 h17 => ?_; clear h9
 have hk18 := hk5.kept hg12 (by simp)
 refine pk (v := .int .i64 d.k) h17 rfl (rn_load1 rfl rfl Try.isAgg3 (hk18.cell rfl)) fun a19 h19 => ?_; clear h17
 refine pk0 (v := .agg #[.int .i64 d.k, .int .i64 0, .int .u64 0, .int .i64 0, .slice none 0 0, .int .u64 0, .slice none 0 0, .int .i64 0, .int .i64 0, .slice none 0 0, .int .u64 0, .int .i64 0, .int .u64 0, .int .i64 0, .int .i64 0, .int .i64 0, .int .i64 0, .int .i64 0]) h19 rfl fun a20 h20 => ?_; clear h19
 refine pw h20 rfl (op_new (v := fun N => pt N 0) (T := 73) (cs := #[.int .i64 0, .int .i64 0, .int .u64 0, .int .i64 0, .slice none 0 0, .int .u64 0, .slice none 0 0, .int .i64 0, .int .i64 0, .slice none 0 0, .int .u64 0, .int .i64 0, .int .u64 0, .int .i64 0, .int .i64 0, .int .i64 0, .int .i64 0, .int .i64 0]) (by kernel_rfl) (by kernel_rfl) (by kernel_rfl)) ?_; clear h20
 rintro _ w22 a21 ⟨N23, rfl, hN26, hz27, hk25, hg24⟩ h21
 have hz28 := hg24.size
 try dsimp only at h21
 refine pwD h21 rfl (op_storeN rfl rfl rfl (all_cons rfl (all_cons rfl (all_cons rfl (all_cons rfl (all_cons rfl (all_cons rfl (all_cons rfl (all_cons rfl (all_cons rfl (all_cons rfl (all_cons rfl (all_cons rfl (all_cons rfl (all_cons rfl (all_cons rfl (all_cons rfl (all_cons rfl (all_cons rfl all_nil)))))))))))))))))) (by kernel_rfl) hk25 rfl) ?_; clear h21
 rintro _ w30 a29 ⟨hk31, hz32, hg33⟩ h29
 have hk31' : Blk w30 N23 73 #[.int .i64 d.k, .int .i64 0, .int .u64 0, .int .i64 0, .slice none 0 0, .int .u64 0, .slice none 0 0, .int .i64 0, .int .i64 0, .slice none 0 0, .int .u64 0, .int .i64 0, .int .u64 0, .int .i64 0, .int .i64 0, .int .i64 0, .int .i64 0, .int .i64 0] := hk31; clear hk31
 have hz34 := hg33.size
 refine pl_nil ?_
 refine co_then ?_
 refine co_seq ?_
 refine co_seq ?_
 refine co_reg ?_
 refine pk0 (v := pt N3 0) h29 rfl fun a35 h35 => ?_; clear h29
 have hk36 := hk18.kept hg24 (by simp)
 have hk37 := hk36.kept hg33 (by simp; omega)
 refine pk (v := .int .i64 d.k) h35 rfl (rn_load1 rfl rfl Try.isAgg3 (hk37.cell rfl)) fun a38 h38 => ?_; clear h35
 refine pl_nil ?_
 refine co_then ?_
 refine wp_block ?_
 refine co_seq ?_
 refine co_reg ?_
 refine pk0 (v := .bool (d.k == 1)) h38 rfl fun a39 h39 => ?_; clear h38
 refine pk0 (v := .bool (d.k == 1)) h39 rfl fun a40 h40 => ?_; clear h39
 refine pl_nil ?_
 refine co_then ?_
 have hB42 := hb_new hB0 hg4
 have hB43 := hb_new hB42 hg12
 have hB44 := hb_new hB43 hg24
 have hB45 := hb_at hB44 hg33 (by omega)
 have hk46 := hk13.kept hg24 (by simp)
 have hk47 := hk46.kept hg33 (by simp; omega)
 cases hc41 : (d.k == 1)
 ·
  rw [hc41] at h40
  have hp48 : ¬ (d.k = 1) := by first | simpa using hc41 | simpa [and_assoc] using hc41
  clear hc41
  refine co_false h40 rfl ?_
  refine co_seq ?_
  refine co_reg ?_
  refine pk0 (v := .bool (d.k == 2)) h40 rfl fun a49 h49 => ?_; clear h40
  refine pk0 (v := .bool (d.k == 2)) h49 rfl fun a50 h50 => ?_; clear h49
  refine pl_nil ?_
  refine co_then ?_
  cases hc51 : (d.k == 2)
  ·
   rw [hc51] at h50
   have hp52 : ¬ (d.k = 2) := by first | simpa using hc51 | simpa [and_assoc] using hc51
   clear hc51
   refine co_false h50 rfl ?_
   refine co_seq ?_
   refine co_seq ?_
   refine co_reg ?_
   refine pk0 (v := .bool (d.k == 3)) h50 rfl fun a53 h53 => ?_; clear h50
   refine pk0 (v := .bool (d.k == 3)) h53 rfl fun a54 h54 => ?_; clear h53
   refine pl_nil ?_
   refine co_then ?_
   cases hc55 : (d.k == 3)
   ·
    rw [hc55] at h54
    have hp56 : ¬ (d.k = 3) := by first | simpa using hc55 | simpa [and_assoc] using hc55
    clear hc55
    refine co_false h54 rfl ?_
    refine co_reg ?_
    refine pk0 (v := .bool (d.k == 4)) h54 rfl fun a57 h57 => ?_; clear h54
    refine pk0 (v := .bool (d.k == 4)) h57 rfl fun a58 h58 => ?_; clear h57
    refine pl_nil ?_
    refine co_then ?_
    cases hc59 : (d.k == 4)
    ·
     rw [hc59] at h58
     have hp60 : ¬ (d.k = 4) := by first | simpa using hc59 | simpa [and_assoc] using hc59
     clear hc59
     refine co_false h58 rfl ?_
     refine co_seq ?_
     refine co_seq ?_
     refine co_reg ?_
     refine pk0 (v := .bool (d.k == 5)) h58 rfl fun a61 h61 => ?_; clear h58
     refine pk0 (v := .bool (d.k == 5)) h61 rfl fun a62 h62 => ?_; clear h61
     refine pl_nil ?_
     refine co_then ?_
     cases hc63 : (d.k == 5)
     ·
      rw [hc63] at h62
      have hp64 : ¬ (d.k = 5) := by first | simpa using hc63 | simpa [and_assoc] using hc63
      clear hc63
      refine co_false h62 rfl ?_
      refine co_reg ?_
      refine pk0 (v := .bool (d.k == 7)) h62 rfl fun a65 h65 => ?_; clear h62
      refine pk0 (v := .bool (d.k == 7)) h65 rfl fun a66 h66 => ?_; clear h65
      refine pl_nil ?_
      refine co_then ?_
      cases hc67 : (d.k == 7)
      ·
       rw [hc67] at h66
       have hp68 : ¬ (d.k = 7) := by first | simpa using hc67 | simpa [and_assoc] using hc67
       clear hc67
       refine co_false h66 rfl ?_
       refine co_seq ?_
       refine co_reg ?_
       refine pk0 (v := .bool (d.k == 6)) h66 rfl fun a69 h69 => ?_; clear h66
       refine pk0 (v := .bool (d.k == 6)) h69 rfl fun a70 h70 => ?_; clear h69
       refine pl_nil ?_
       refine co_then ?_
       cases hc71 : (d.k == 6)
       ·
        rw [hc71] at h70
        have hp72 : ¬ (d.k = 6) := by first | simpa using hc71 | simpa [and_assoc] using hc71
        clear hc71
        refine co_false h70 rfl ?_
        refine co_seq ?_
        refine co_reg ?_
        refine pk0 (v := .bool (d.k == 8)) h70 rfl fun a73 h73 => ?_; clear h70
        refine pk0 (v := .bool (d.k == 8)) h73 rfl fun a74 h74 => ?_; clear h73
        refine pl_nil ?_
        refine co_then ?_
        cases hc75 : (d.k == 8)
        ·
         rw [hc75] at h74
         have hp76 : ¬ (d.k = 8) := by first | simpa using hc75 | simpa [and_assoc] using hc75
         clear hc75
         refine co_false h74 rfl ?_
         refine co_seq ?_
         refine co_reg ?_
         refine pk0 (v := .agg #[.int .i64 0, .int .i64 0, .int .u64 0, .int .i64 0, .slice none 0 0, .int .u64 0, .slice none 0 0, .int .i64 0, .int .i64 0, .slice none 0 0, .int .u64 0, .int .i64 0, .int .u64 0, .int .i64 0, .int .i64 0, .int .i64 0, .int .i64 0, .int .i64 0]) h74 rfl fun a77 h77 => ?_; clear h74
         refine pwD h77 rfl (op_storeN rfl rfl rfl (all_cons rfl (all_cons rfl (all_cons rfl (all_cons rfl (all_cons rfl (all_cons rfl (all_cons rfl (all_cons rfl (all_cons rfl (all_cons rfl (all_cons rfl (all_cons rfl (all_cons rfl (all_cons rfl (all_cons rfl (all_cons rfl (all_cons rfl (all_cons rfl all_nil)))))))))))))))))) (by kernel_rfl) hk47 rfl) ?_; clear h77
         rintro _ w79 a78 ⟨hk80, hz81, hg82⟩ h78
         have hk80' : Blk w79 N11 73 #[.int .i64 0, .int .i64 0, .int .u64 0, .int .i64 0, .slice none 0 0, .int .u64 0, .slice none 0 0, .int .i64 0, .int .i64 0, .slice none 0 0, .int .u64 0, .int .i64 0, .int .u64 0, .int .i64 0, .int .i64 0, .int .i64 0, .int .i64 0, .int .i64 0] := hk80; clear hk80
         have hz83 := hg82.size
         refine pl_nil ?_
         refine co_then ?_
         refine wp_ret ?_
         refine co_blockR ?_
         refine co_thenR ?_
         refine co_retC (Q := fun _ _ _ => True) h78 rfl rfl hk80' Try.underlying73 rfl (by kernel_rfl) ?_
         have hB84 := hb_at hB45 hg82 (by omega)
         have hcl := cl_0 (d := d) (by omega)
         refine ⟨.slice none 0 0, .slice none 0 0, .slice none 0 0, by rw [hcl]; rfl, ?_, hB84⟩
         unfold CleanV; rw [hcl]
         exact ⟨fun _ hx => by first | exact hx | exact sl_nil _, fun _ hx => by first | exact hx | exact sl_nil _, fun _ hx => by first | exact hx | exact sl_nil _⟩
        ·
         rw [hc75] at h74
         have hp85 : d.k = 8 := by first | simpa using hc75 | simpa [and_assoc] using hc75
         clear hc75
         refine co_true h74 rfl ?_
         refine co_reg ?_
         refine pk0 (v := pt N3 14) h74 rfl fun a86 h86 => ?_; clear h74
         refine pk (v := .agg #[.int .i64 d.sc, .int .i64 d.sr, .int .i64 d.se, .int .i64 d.sp]) h86 rfl (rn_loadN rfl rfl Try.underlying71 rfl (by kernel_rfl) (blk_part hk37 14 (by rfl))) fun a87 h87 => ?_; clear h86
         refine pk0 (v := pt N23 14) h87 rfl fun a88 h88 => ?_; clear h87
         refine pwD h88 rfl (op_storePart (k := 14) (cs' := #[.int .i64 d.k, .int .i64 0, .int .u64 0, .int .i64 0, .slice none 0 0, .int .u64 0, .slice none 0 0, .int .i64 0, .int .i64 0, .slice none 0 0, .int .u64 0, .int .i64 0, .int .u64 0, .int .i64 0, .int .i64 d.sc, .int .i64 d.sr, .int .i64 d.se, .int .i64 d.sp]) rfl rfl rfl (by kernel_rfl) (by kernel_rfl) hk31' rfl rfl) ?_; clear h88
         rintro _ w90 a89 ⟨hk91, hz92, hg93⟩ h89
         have hk91' : Blk w90 N23 73 #[.int .i64 d.k, .int .i64 0, .int .u64 0, .int .i64 0, .slice none 0 0, .int .u64 0, .slice none 0 0, .int .i64 0, .int .i64 0, .slice none 0 0, .int .u64 0, .int .i64 0, .int .u64 0, .int .i64 0, .int .i64 d.sc, .int .i64 d.sr, .int .i64 d.se, .int .i64 d.sp] := hk91; clear hk91
         have hz94 := hg93.size
         refine pl_nil ?_
         refine co_blockN ?_
         refine co_then ?_
         refine co_seq ?_
         refine co_reg ?_
         refine pk (v := .agg #[.int .i64 d.k, .int .i64 0, .int .u64 0, .int .i64 0, .slice none 0 0, .int .u64 0, .slice none 0 0, .int .i64 0, .int .i64 0, .slice none 0 0, .int .u64 0, .int .i64 0, .int .u64 0, .int .i64 0, .int .i64 d.sc, .int .i64 d.sr, .int .i64 d.se, .int .i64 d.sp]) h89 rfl (rn_loadN rfl rfl Try.underlying73 rfl (by kernel_rfl) hk91'.all) fun a95 h95 => ?_; clear h89
         have hk101 := hk47.kept hg93 (by simp; omega)
         refine pwD h95 rfl (op_storeN rfl rfl rfl (all_cons rfl (all_cons rfl (all_cons rfl (all_cons rfl (all_cons rfl (all_cons rfl (all_cons rfl (all_cons rfl (all_cons rfl (all_cons rfl (all_cons rfl (all_cons rfl (all_cons rfl (all_cons rfl (all_cons rfl (all_cons rfl (all_cons rfl (all_cons rfl all_nil)))))))))))))))))) (by kernel_rfl) hk101 rfl) ?_; clear h95
         rintro _ w97 a96 ⟨hk98, hz99, hg100⟩ h96
         have hk98' : Blk w97 N11 73 #[.int .i64 d.k, .int .i64 0, .int .u64 0, .int .i64 0, .slice none 0 0, .int .u64 0, .slice none 0 0, .int .i64 0, .int .i64 0, .slice none 0 0, .int .u64 0, .int .i64 0, .int .u64 0, .int .i64 0, .int .i64 d.sc, .int .i64 d.sr, .int .i64 d.se, .int .i64 d.sp] := hk98; clear hk98
         have hz102 := hg100.size
         refine pl_nil ?_
         refine co_then ?_
         refine wp_ret ?_
         refine co_retC (Q := fun _ _ _ => True) h96 rfl rfl hk98' Try.underlying73 rfl (by kernel_rfl) ?_
         have hB103 := hb_at hB45 hg93 (by omega)
         have hB104 := hb_at hB103 hg100 (by omega)
         have hcl := cl_8 (d := d) (by omega)
         refine ⟨.slice none 0 0, .slice none 0 0, .slice none 0 0, by rw [hcl]; rfl, ?_, hB104⟩
         unfold CleanV; rw [hcl]
         exact ⟨fun _ hx => by first | exact hx | exact sl_nil _, fun _ hx => by first | exact hx | exact sl_nil _, fun _ hx => by first | exact hx | exact sl_nil _⟩
       ·
        rw [hc71] at h70
        have hp105 : d.k = 6 := by first | simpa using hc71 | simpa [and_assoc] using hc71
        clear hc71
        refine co_true h70 rfl ?_
        refine co_reg ?_
        refine pk0 (v := pt N3 11) h70 rfl fun a106 h106 => ?_; clear h70
        refine pk (v := .agg #[.int .i64 d.pid, .int .u64 d.pat, .int .i64 d.plf]) h106 rfl (rn_loadN rfl rfl Try.underlying69 rfl (by kernel_rfl) (blk_part hk37 11 (by rfl))) fun a107 h107 => ?_; clear h106
        refine pk0 (v := pt N23 11) h107 rfl fun a108 h108 => ?_; clear h107
        refine pwD h108 rfl (op_storePart (k := 11) (cs' := #[.int .i64 d.k, .int .i64 0, .int .u64 0, .int .i64 0, .slice none 0 0, .int .u64 0, .slice none 0 0, .int .i64 0, .int .i64 0, .slice none 0 0, .int .u64 0, .int .i64 d.pid, .int .u64 d.pat, .int .i64 d.plf, .int .i64 0, .int .i64 0, .int .i64 0, .int .i64 0]) rfl rfl rfl (by kernel_rfl) (by kernel_rfl) hk31' rfl rfl) ?_; clear h108
        rintro _ w110 a109 ⟨hk111, hz112, hg113⟩ h109
        have hk111' : Blk w110 N23 73 #[.int .i64 d.k, .int .i64 0, .int .u64 0, .int .i64 0, .slice none 0 0, .int .u64 0, .slice none 0 0, .int .i64 0, .int .i64 0, .slice none 0 0, .int .u64 0, .int .i64 d.pid, .int .u64 d.pat, .int .i64 d.plf, .int .i64 0, .int .i64 0, .int .i64 0, .int .i64 0] := hk111; clear hk111
        have hz114 := hg113.size
        refine pl_nil ?_
        refine co_blockN ?_
        refine co_then ?_
        refine co_seq ?_
        refine co_reg ?_
        refine pk (v := .agg #[.int .i64 d.k, .int .i64 0, .int .u64 0, .int .i64 0, .slice none 0 0, .int .u64 0, .slice none 0 0, .int .i64 0, .int .i64 0, .slice none 0 0, .int .u64 0, .int .i64 d.pid, .int .u64 d.pat, .int .i64 d.plf, .int .i64 0, .int .i64 0, .int .i64 0, .int .i64 0]) h109 rfl (rn_loadN rfl rfl Try.underlying73 rfl (by kernel_rfl) hk111'.all) fun a115 h115 => ?_; clear h109
        have hk121 := hk47.kept hg113 (by simp; omega)
        refine pwD h115 rfl (op_storeN rfl rfl rfl (all_cons rfl (all_cons rfl (all_cons rfl (all_cons rfl (all_cons rfl (all_cons rfl (all_cons rfl (all_cons rfl (all_cons rfl (all_cons rfl (all_cons rfl (all_cons rfl (all_cons rfl (all_cons rfl (all_cons rfl (all_cons rfl (all_cons rfl (all_cons rfl all_nil)))))))))))))))))) (by kernel_rfl) hk121 rfl) ?_; clear h115
        rintro _ w117 a116 ⟨hk118, hz119, hg120⟩ h116
        have hk118' : Blk w117 N11 73 #[.int .i64 d.k, .int .i64 0, .int .u64 0, .int .i64 0, .slice none 0 0, .int .u64 0, .slice none 0 0, .int .i64 0, .int .i64 0, .slice none 0 0, .int .u64 0, .int .i64 d.pid, .int .u64 d.pat, .int .i64 d.plf, .int .i64 0, .int .i64 0, .int .i64 0, .int .i64 0] := hk118; clear hk118
        have hz122 := hg120.size
        refine pl_nil ?_
        refine co_then ?_
        refine wp_ret ?_
        refine co_retC (Q := fun _ _ _ => True) h116 rfl rfl hk118' Try.underlying73 rfl (by kernel_rfl) ?_
        have hB123 := hb_at hB45 hg113 (by omega)
        have hB124 := hb_at hB123 hg120 (by omega)
        have hcl := cl_6 (d := d) (by omega)
        refine ⟨.slice none 0 0, .slice none 0 0, .slice none 0 0, by rw [hcl]; rfl, ?_, hB124⟩
        unfold CleanV; rw [hcl]
        exact ⟨fun _ hx => by first | exact hx | exact sl_nil _, fun _ hx => by first | exact hx | exact sl_nil _, fun _ hx => by first | exact hx | exact sl_nil _⟩
      ·
       rw [hc67] at h66
       have hp125 : d.k = 7 := by first | simpa using hc67 | simpa [and_assoc] using hc67
       clear hc67
       refine co_true h66 rfl ?_
       refine co_reg ?_
       refine pk0 (v := pt N3 1) h66 rfl fun a126 h126 => ?_; clear h66
       refine pk (v := .int .i64 d.n) h126 rfl (rn_load1 rfl rfl Try.isAgg3 (hk37.cell rfl)) fun a127 h127 => ?_; clear h126
       refine pk0 (v := pt N23 1) h127 rfl fun a128 h128 => ?_; clear h127
       refine pwD h128 rfl (op_store1 rfl rfl rfl rfl Try.sizeOf3 hk31' rfl) ?_; clear h128
       rintro _ w130 a129 ⟨hk131, hz132, hg133⟩ h129
       have hk131' : Blk w130 N23 73 #[.int .i64 d.k, .int .i64 d.n, .int .u64 0, .int .i64 0, .slice none 0 0, .int .u64 0, .slice none 0 0, .int .i64 0, .int .i64 0, .slice none 0 0, .int .u64 0, .int .i64 0, .int .u64 0, .int .i64 0, .int .i64 0, .int .i64 0, .int .i64 0, .int .i64 0] := hk131; clear hk131
       have hz134 := hg133.size
       refine pl_nil ?_
       refine co_blockN ?_
       refine co_then ?_
       refine co_seq ?_
       refine co_reg ?_
       refine pk (v := .agg #[.int .i64 d.k, .int .i64 d.n, .int .u64 0, .int .i64 0, .slice none 0 0, .int .u64 0, .slice none 0 0, .int .i64 0, .int .i64 0, .slice none 0 0, .int .u64 0, .int .i64 0, .int .u64 0, .int .i64 0, .int .i64 0, .int .i64 0, .int .i64 0, .int .i64 0]) h129 rfl (rn_loadN rfl rfl Try.underlying73 rfl (by kernel_rfl) hk131'.all) fun a135 h135 => ?_; clear h129
       have hk141 := hk47.kept hg133 (by simp; omega)
       refine pwD h135 rfl (op_storeN rfl rfl rfl (all_cons rfl (all_cons rfl (all_cons rfl (all_cons rfl (all_cons rfl (all_cons rfl (all_cons rfl (all_cons rfl (all_cons rfl (all_cons rfl (all_cons rfl (all_cons rfl (all_cons rfl (all_cons rfl (all_cons rfl (all_cons rfl (all_cons rfl (all_cons rfl all_nil)))))))))))))))))) (by kernel_rfl) hk141 rfl) ?_; clear h135
       rintro _ w137 a136 ⟨hk138, hz139, hg140⟩ h136
       have hk138' : Blk w137 N11 73 #[.int .i64 d.k, .int .i64 d.n, .int .u64 0, .int .i64 0, .slice none 0 0, .int .u64 0, .slice none 0 0, .int .i64 0, .int .i64 0, .slice none 0 0, .int .u64 0, .int .i64 0, .int .u64 0, .int .i64 0, .int .i64 0, .int .i64 0, .int .i64 0, .int .i64 0] := hk138; clear hk138
       have hz142 := hg140.size
       refine pl_nil ?_
       refine co_then ?_
       refine wp_ret ?_
       refine co_retC (Q := fun _ _ _ => True) h136 rfl rfl hk138' Try.underlying73 rfl (by kernel_rfl) ?_
       have hB143 := hb_at hB45 hg133 (by omega)
       have hB144 := hb_at hB143 hg140 (by omega)
       have hcl := cl_5 (d := d) (by omega)
       refine ⟨.slice none 0 0, .slice none 0 0, .slice none 0 0, by rw [hcl]; rfl, ?_, hB144⟩
       unfold CleanV; rw [hcl]
       exact ⟨fun _ hx => by first | exact hx | exact sl_nil _, fun _ hx => by first | exact hx | exact sl_nil _, fun _ hx => by first | exact hx | exact sl_nil _⟩
     ·
      rw [hc63] at h62
      have hp145 : d.k = 5 := by first | simpa using hc63 | simpa [and_assoc] using hc63
      clear hc63
      refine co_true h62 rfl ?_
      refine wp_skip ?_
      refine co_then ?_
      refine co_true h62 rfl ?_
      refine co_reg ?_
      refine pk0 (v := pt N3 1) h62 rfl fun a146 h146 => ?_; clear h62
      refine pk (v := .int .i64 d.n) h146 rfl (rn_load1 rfl rfl Try.isAgg3 (hk37.cell rfl)) fun a147 h147 => ?_; clear h146
      refine pk0 (v := pt N23 1) h147 rfl fun a148 h148 => ?_; clear h147
      refine pwD h148 rfl (op_store1 rfl rfl rfl rfl Try.sizeOf3 hk31' rfl) ?_; clear h148
      rintro _ w150 a149 ⟨hk151, hz152, hg153⟩ h149
      have hk151' : Blk w150 N23 73 #[.int .i64 d.k, .int .i64 d.n, .int .u64 0, .int .i64 0, .slice none 0 0, .int .u64 0, .slice none 0 0, .int .i64 0, .int .i64 0, .slice none 0 0, .int .u64 0, .int .i64 0, .int .u64 0, .int .i64 0, .int .i64 0, .int .i64 0, .int .i64 0, .int .i64 0] := hk151; clear hk151
      have hz154 := hg153.size
      refine pl_nil ?_
      refine co_blockN ?_
      refine co_then ?_
      refine co_seq ?_
      refine co_reg ?_
      refine pk (v := .agg #[.int .i64 d.k, .int .i64 d.n, .int .u64 0, .int .i64 0, .slice none 0 0, .int .u64 0, .slice none 0 0, .int .i64 0, .int .i64 0, .slice none 0 0, .int .u64 0, .int .i64 0, .int .u64 0, .int .i64 0, .int .i64 0, .int .i64 0, .int .i64 0, .int .i64 0]) h149 rfl (rn_loadN rfl rfl Try.underlying73 rfl (by kernel_rfl) hk151'.all) fun a155 h155 => ?_; clear h149
      have hk161 := hk47.kept hg153 (by simp; omega)
      refine pwD h155 rfl (op_storeN rfl rfl rfl (all_cons rfl (all_cons rfl (all_cons rfl (all_cons rfl (all_cons rfl (all_cons rfl (all_cons rfl (all_cons rfl (all_cons rfl (all_cons rfl (all_cons rfl (all_cons rfl (all_cons rfl (all_cons rfl (all_cons rfl (all_cons rfl (all_cons rfl (all_cons rfl all_nil)))))))))))))))))) (by kernel_rfl) hk161 rfl) ?_; clear h155
      rintro _ w157 a156 ⟨hk158, hz159, hg160⟩ h156
      have hk158' : Blk w157 N11 73 #[.int .i64 d.k, .int .i64 d.n, .int .u64 0, .int .i64 0, .slice none 0 0, .int .u64 0, .slice none 0 0, .int .i64 0, .int .i64 0, .slice none 0 0, .int .u64 0, .int .i64 0, .int .u64 0, .int .i64 0, .int .i64 0, .int .i64 0, .int .i64 0, .int .i64 0] := hk158; clear hk158
      have hz162 := hg160.size
      refine pl_nil ?_
      refine co_then ?_
      refine wp_ret ?_
      refine co_retC (Q := fun _ _ _ => True) h156 rfl rfl hk158' Try.underlying73 rfl (by kernel_rfl) ?_
      have hB163 := hb_at hB45 hg153 (by omega)
      have hB164 := hb_at hB163 hg160 (by omega)
      have hcl := cl_5 (d := d) (by omega)
      refine ⟨.slice none 0 0, .slice none 0 0, .slice none 0 0, by rw [hcl]; rfl, ?_, hB164⟩
      unfold CleanV; rw [hcl]
      exact ⟨fun _ hx => by first | exact hx | exact sl_nil _, fun _ hx => by first | exact hx | exact sl_nil _, fun _ hx => by first | exact hx | exact sl_nil _⟩
    ·
     rw [hc59] at h58
     have hp165 : d.k = 4 := by first | simpa using hc59 | simpa [and_assoc] using hc59
     clear hc59
     refine co_true h58 rfl ?_
     refine co_seq ?_
     refine co_reg ?_
     refine pk0 (v := pt N3 1) h58 rfl fun a166 h166 => ?_; clear h58
     refine pk (v := .int .i64 d.n) h166 rfl (rn_load1 rfl rfl Try.isAgg3 (hk37.cell rfl)) fun a167 h167 => ?_; clear h166
     refine pk0 (v := pt N23 1) h167 rfl fun a168 h168 => ?_; clear h167
     refine pwD h168 rfl (op_store1 rfl rfl rfl rfl Try.sizeOf3 hk31' rfl) ?_; clear h168
     rintro _ w170 a169 ⟨hk171, hz172, hg173⟩ h169
     have hk171' : Blk w170 N23 73 #[.int .i64 d.k, .int .i64 d.n, .int .u64 0, .int .i64 0, .slice none 0 0, .int .u64 0, .slice none 0 0, .int .i64 0, .int .i64 0, .slice none 0 0, .int .u64 0, .int .i64 0, .int .u64 0, .int .i64 0, .int .i64 0, .int .i64 0, .int .i64 0, .int .i64 0] := hk171; clear hk171
     have hz174 := hg173.size
     refine pl_nil ?_
     refine co_then ?_
     refine co_reg ?_
     refine pk0 (v := pt N3 2) h169 rfl fun a175 h175 => ?_; clear h169
     have hk176 := hk37.kept hg173 (by simp; omega)
     refine pk (v := .int .u64 d.t) h175 rfl (rn_load1 rfl rfl Try.isAgg32 (hk176.cell rfl)) fun a177 h177 => ?_; clear h175
     refine pk0 (v := pt N23 2) h177 rfl fun a178 h178 => ?_; clear h177
     refine pwD h178 rfl (op_store1 rfl rfl rfl rfl Try.sizeOf32 hk171' rfl) ?_; clear h178
     rintro _ w180 a179 ⟨hk181, hz182, hg183⟩ h179
     have hk181' : Blk w180 N23 73 #[.int .i64 d.k, .int .i64 d.n, .int .u64 d.t, .int .i64 0, .slice none 0 0, .int .u64 0, .slice none 0 0, .int .i64 0, .int .i64 0, .slice none 0 0, .int .u64 0, .int .i64 0, .int .u64 0, .int .i64 0, .int .i64 0, .int .i64 0, .int .i64 0, .int .i64 0] := hk181; clear hk181
     have hz184 := hg183.size
     refine pl_nil ?_
     refine co_blockN ?_
     refine co_then ?_
     refine co_seq ?_
     refine co_reg ?_
     refine pk (v := .agg #[.int .i64 d.k, .int .i64 d.n, .int .u64 d.t, .int .i64 0, .slice none 0 0, .int .u64 0, .slice none 0 0, .int .i64 0, .int .i64 0, .slice none 0 0, .int .u64 0, .int .i64 0, .int .u64 0, .int .i64 0, .int .i64 0, .int .i64 0, .int .i64 0, .int .i64 0]) h179 rfl (rn_loadN rfl rfl Try.underlying73 rfl (by kernel_rfl) hk181'.all) fun a185 h185 => ?_; clear h179
     have hk191 := hk47.kept hg173 (by simp; omega)
     have hk192 := hk191.kept hg183 (by simp; omega)
     refine pwD h185 rfl (op_storeN rfl rfl rfl (all_cons rfl (all_cons rfl (all_cons rfl (all_cons rfl (all_cons rfl (all_cons rfl (all_cons rfl (all_cons rfl (all_cons rfl (all_cons rfl (all_cons rfl (all_cons rfl (all_cons rfl (all_cons rfl (all_cons rfl (all_cons rfl (all_cons rfl (all_cons rfl all_nil)))))))))))))))))) (by kernel_rfl) hk192 rfl) ?_; clear h185
     rintro _ w187 a186 ⟨hk188, hz189, hg190⟩ h186
     have hk188' : Blk w187 N11 73 #[.int .i64 d.k, .int .i64 d.n, .int .u64 d.t, .int .i64 0, .slice none 0 0, .int .u64 0, .slice none 0 0, .int .i64 0, .int .i64 0, .slice none 0 0, .int .u64 0, .int .i64 0, .int .u64 0, .int .i64 0, .int .i64 0, .int .i64 0, .int .i64 0, .int .i64 0] := hk188; clear hk188
     have hz193 := hg190.size
     refine pl_nil ?_
     refine co_then ?_
     refine wp_ret ?_
     refine co_retC (Q := fun _ _ _ => True) h186 rfl rfl hk188' Try.underlying73 rfl (by kernel_rfl) ?_
     have hB194 := hb_at hB45 hg173 (by omega)
     have hB195 := hb_at hB194 hg183 (by omega)
     have hB196 := hb_at hB195 hg190 (by omega)
     have hcl := cl_3 (d := d) (by omega)
     refine ⟨.slice none 0 0, .slice none 0 0, .slice none 0 0, by rw [hcl]; rfl, ?_, hB196⟩
     unfold CleanV; rw [hcl]
     exact ⟨fun _ hx => by first | exact hx | exact sl_nil _, fun _ hx => by first | exact hx | exact sl_nil _, fun _ hx => by first | exact hx | exact sl_nil _⟩
   ·
    rw [hc55] at h54
    have hp197 : d.k = 3 := by first | simpa using hc55 | simpa [and_assoc] using hc55
    clear hc55
    refine co_true h54 rfl ?_
    refine wp_skip ?_
    refine co_then ?_
    refine co_true h54 rfl ?_
    refine co_seq ?_
    refine co_reg ?_
    refine pk0 (v := pt N3 1) h54 rfl fun a198 h198 => ?_; clear h54
    refine pk (v := .int .i64 d.n) h198 rfl (rn_load1 rfl rfl Try.isAgg3 (hk37.cell rfl)) fun a199 h199 => ?_; clear h198
    refine pk0 (v := pt N23 1) h199 rfl fun a200 h200 => ?_; clear h199
    refine pwD h200 rfl (op_store1 rfl rfl rfl rfl Try.sizeOf3 hk31' rfl) ?_; clear h200
    rintro _ w202 a201 ⟨hk203, hz204, hg205⟩ h201
    have hk203' : Blk w202 N23 73 #[.int .i64 d.k, .int .i64 d.n, .int .u64 0, .int .i64 0, .slice none 0 0, .int .u64 0, .slice none 0 0, .int .i64 0, .int .i64 0, .slice none 0 0, .int .u64 0, .int .i64 0, .int .u64 0, .int .i64 0, .int .i64 0, .int .i64 0, .int .i64 0, .int .i64 0] := hk203; clear hk203
    have hz206 := hg205.size
    refine pl_nil ?_
    refine co_then ?_
    refine co_reg ?_
    refine pk0 (v := pt N3 2) h201 rfl fun a207 h207 => ?_; clear h201
    have hk208 := hk37.kept hg205 (by simp; omega)
    refine pk (v := .int .u64 d.t) h207 rfl (rn_load1 rfl rfl Try.isAgg32 (hk208.cell rfl)) fun a209 h209 => ?_; clear h207
    refine pk0 (v := pt N23 2) h209 rfl fun a210 h210 => ?_; clear h209
    refine pwD h210 rfl (op_store1 rfl rfl rfl rfl Try.sizeOf32 hk203' rfl) ?_; clear h210
    rintro _ w212 a211 ⟨hk213, hz214, hg215⟩ h211
    have hk213' : Blk w212 N23 73 #[.int .i64 d.k, .int .i64 d.n, .int .u64 d.t, .int .i64 0, .slice none 0 0, .int .u64 0, .slice none 0 0, .int .i64 0, .int .i64 0, .slice none 0 0, .int .u64 0, .int .i64 0, .int .u64 0, .int .i64 0, .int .i64 0, .int .i64 0, .int .i64 0, .int .i64 0] := hk213; clear hk213
    have hz216 := hg215.size
    refine pl_nil ?_
    refine co_blockN ?_
    refine co_then ?_
    refine co_seq ?_
    refine co_reg ?_
    refine pk (v := .agg #[.int .i64 d.k, .int .i64 d.n, .int .u64 d.t, .int .i64 0, .slice none 0 0, .int .u64 0, .slice none 0 0, .int .i64 0, .int .i64 0, .slice none 0 0, .int .u64 0, .int .i64 0, .int .u64 0, .int .i64 0, .int .i64 0, .int .i64 0, .int .i64 0, .int .i64 0]) h211 rfl (rn_loadN rfl rfl Try.underlying73 rfl (by kernel_rfl) hk213'.all) fun a217 h217 => ?_; clear h211
    have hk223 := hk47.kept hg205 (by simp; omega)
    have hk224 := hk223.kept hg215 (by simp; omega)
    refine pwD h217 rfl (op_storeN rfl rfl rfl (all_cons rfl (all_cons rfl (all_cons rfl (all_cons rfl (all_cons rfl (all_cons rfl (all_cons rfl (all_cons rfl (all_cons rfl (all_cons rfl (all_cons rfl (all_cons rfl (all_cons rfl (all_cons rfl (all_cons rfl (all_cons rfl (all_cons rfl (all_cons rfl all_nil)))))))))))))))))) (by kernel_rfl) hk224 rfl) ?_; clear h217
    rintro _ w219 a218 ⟨hk220, hz221, hg222⟩ h218
    have hk220' : Blk w219 N11 73 #[.int .i64 d.k, .int .i64 d.n, .int .u64 d.t, .int .i64 0, .slice none 0 0, .int .u64 0, .slice none 0 0, .int .i64 0, .int .i64 0, .slice none 0 0, .int .u64 0, .int .i64 0, .int .u64 0, .int .i64 0, .int .i64 0, .int .i64 0, .int .i64 0, .int .i64 0] := hk220; clear hk220
    have hz225 := hg222.size
    refine pl_nil ?_
    refine co_then ?_
    refine wp_ret ?_
    refine co_retC (Q := fun _ _ _ => True) h218 rfl rfl hk220' Try.underlying73 rfl (by kernel_rfl) ?_
    have hB226 := hb_at hB45 hg205 (by omega)
    have hB227 := hb_at hB226 hg215 (by omega)
    have hB228 := hb_at hB227 hg222 (by omega)
    have hcl := cl_3 (d := d) (by omega)
    refine ⟨.slice none 0 0, .slice none 0 0, .slice none 0 0, by rw [hcl]; rfl, ?_, hB228⟩
    unfold CleanV; rw [hcl]
    exact ⟨fun _ hx => by first | exact hx | exact sl_nil _, fun _ hx => by first | exact hx | exact sl_nil _, fun _ hx => by first | exact hx | exact sl_nil _⟩
  ·
   rw [hc51] at h50
   have hp229 : d.k = 2 := by first | simpa using hc51 | simpa [and_assoc] using hc51
   clear hc51
   refine co_true h50 rfl ?_
   refine co_seq ?_
   refine co_reg ?_
   refine pk0 (v := pt N3 1) h50 rfl fun a230 h230 => ?_; clear h50
   refine pk (v := .int .i64 d.n) h230 rfl (rn_load1 rfl rfl Try.isAgg3 (hk37.cell rfl)) fun a231 h231 => ?_; clear h230
   refine pk0 (v := pt N23 1) h231 rfl fun a232 h232 => ?_; clear h231
   refine pwD h232 rfl (op_store1 rfl rfl rfl rfl Try.sizeOf3 hk31' rfl) ?_; clear h232
   rintro _ w234 a233 ⟨hk235, hz236, hg237⟩ h233
   have hk235' : Blk w234 N23 73 #[.int .i64 d.k, .int .i64 d.n, .int .u64 0, .int .i64 0, .slice none 0 0, .int .u64 0, .slice none 0 0, .int .i64 0, .int .i64 0, .slice none 0 0, .int .u64 0, .int .i64 0, .int .u64 0, .int .i64 0, .int .i64 0, .int .i64 0, .int .i64 0, .int .i64 0] := hk235; clear hk235
   have hz238 := hg237.size
   refine pl_nil ?_
   refine co_then ?_
   refine co_reg ?_
   refine pk0 (v := pt N3 7) h233 rfl fun a239 h239 => ?_; clear h233
   have hk240 := hk37.kept hg237 (by simp; omega)
   refine pk (v := .agg #[.int .i64 d.ec, .int .i64 d.er, ev, .int .u64 d.ets]) h239 rfl (rn_loadN rfl rfl Try.underlying34 rfl (by kernel_rfl) (blk_part hk240 7 (by rfl))) fun a241 h241 => ?_; clear h239
   refine pk0 (v := pt N23 7) h241 rfl fun a242 h242 => ?_; clear h241
   have hB248 := hb_at hB45 hg237 (by omega)
   refine pwD h242 rfl (op_storePart (k := 7) (cs' := #[.int .i64 d.k, .int .i64 d.n, .int .u64 0, .int .i64 0, .slice none 0 0, .int .u64 0, .slice none 0 0, .int .i64 d.ec, .int .i64 d.er, ev, .int .u64 d.ets, .int .i64 0, .int .u64 0, .int .i64 0, .int .i64 0, .int .i64 0, .int .i64 0, .int .i64 0]) rfl rfl rfl (all_cons rfl (all_cons rfl (all_cons (sl_one (he.below hB248)) (all_cons rfl all_nil)))) (by kernel_rfl) hk235' rfl rfl) ?_; clear h242
   rintro _ w244 a243 ⟨hk245, hz246, hg247⟩ h243
   have hk245' : Blk w244 N23 73 #[.int .i64 d.k, .int .i64 d.n, .int .u64 0, .int .i64 0, .slice none 0 0, .int .u64 0, .slice none 0 0, .int .i64 d.ec, .int .i64 d.er, ev, .int .u64 d.ets, .int .i64 0, .int .u64 0, .int .i64 0, .int .i64 0, .int .i64 0, .int .i64 0, .int .i64 0] := hk245; clear hk245
   have hz249 := hg247.size
   refine pl_nil ?_
   refine co_blockN ?_
   refine co_then ?_
   refine co_seq ?_
   refine co_reg ?_
   refine pk (v := .agg #[.int .i64 d.k, .int .i64 d.n, .int .u64 0, .int .i64 0, .slice none 0 0, .int .u64 0, .slice none 0 0, .int .i64 d.ec, .int .i64 d.er, ev, .int .u64 d.ets, .int .i64 0, .int .u64 0, .int .i64 0, .int .i64 0, .int .i64 0, .int .i64 0, .int .i64 0]) h243 rfl (rn_loadN rfl rfl Try.underlying73 rfl (by kernel_rfl) hk245'.all) fun a250 h250 => ?_; clear h243
   have hB256 := hb_at hB248 hg247 (by omega)
   have hk257 := hk47.kept hg237 (by simp; omega)
   have hk258 := hk257.kept hg247 (by simp; omega)
   refine pwD h250 rfl (op_storeN rfl rfl rfl (all_cons rfl (all_cons rfl (all_cons rfl (all_cons rfl (all_cons rfl (all_cons rfl (all_cons rfl (all_cons rfl (all_cons rfl (all_cons (sl_one (he.below hB256)) (all_cons rfl (all_cons rfl (all_cons rfl (all_cons rfl (all_cons rfl (all_cons rfl (all_cons rfl (all_cons rfl all_nil)))))))))))))))))) (by kernel_rfl) hk258 rfl) ?_; clear h250
   rintro _ w252 a251 ⟨hk253, hz254, hg255⟩ h251
   have hk253' : Blk w252 N11 73 #[.int .i64 d.k, .int .i64 d.n, .int .u64 0, .int .i64 0, .slice none 0 0, .int .u64 0, .slice none 0 0, .int .i64 d.ec, .int .i64 d.er, ev, .int .u64 d.ets, .int .i64 0, .int .u64 0, .int .i64 0, .int .i64 0, .int .i64 0, .int .i64 0, .int .i64 0] := hk253; clear hk253
   have hz259 := hg255.size
   refine pl_nil ?_
   refine co_then ?_
   refine wp_ret ?_
   refine co_retC (Q := fun _ _ _ => True) h251 rfl rfl hk253' Try.underlying73 rfl (by kernel_rfl) ?_
   have hB260 := hb_at hB256 hg255 (by omega)
   have hcl := cl_2 (d := d) (by omega)
   refine ⟨.slice none 0 0, .slice none 0 0, ev, by rw [hcl]; rfl, ?_, hB260⟩
   unfold CleanV; rw [hcl]
   exact ⟨fun _ hx => by first | exact hx | exact sl_nil _, fun _ hx => by first | exact hx | exact sl_nil _, fun _ hx => by first | exact hx | exact sl_nil _⟩
 ·
  rw [hc41] at h40
  have hp261 : d.k = 1 := by first | simpa using hc41 | simpa [and_assoc] using hc41
  clear hc41
  refine co_true h40 rfl ?_
  refine co_seq ?_
  refine co_reg ?_
  refine pk0 (v := pt N3 3) h40 rfl fun a262 h262 => ?_; clear h40
  refine pk (v := .agg #[.int .i64 d.ep, mv, .int .u64 d.fl]) h262 rfl (rn_loadN rfl rfl Try.underlying56 rfl (by kernel_rfl) (blk_part hk37 3 (by rfl))) fun a263 h263 => ?_; clear h262
  refine pk0 (v := pt N23 3) h263 rfl fun a264 h264 => ?_; clear h263
  refine pwD h264 rfl (op_storePart (k := 3) (cs' := #[.int .i64 d.k, .int .i64 0, .int .u64 0, .int .i64 d.ep, mv, .int .u64 d.fl, .slice none 0 0, .int .i64 0, .int .i64 0, .slice none 0 0, .int .u64 0, .int .i64 0, .int .u64 0, .int .i64 0, .int .i64 0, .int .i64 0, .int .i64 0, .int .i64 0]) rfl rfl rfl (all_cons rfl (all_cons (sl_one (hm.below hB45)) (all_cons rfl all_nil))) (by kernel_rfl) hk31' rfl rfl) ?_; clear h264
  rintro _ w266 a265 ⟨hk267, hz268, hg269⟩ h265
  have hk267' : Blk w266 N23 73 #[.int .i64 d.k, .int .i64 0, .int .u64 0, .int .i64 d.ep, mv, .int .u64 d.fl, .slice none 0 0, .int .i64 0, .int .i64 0, .slice none 0 0, .int .u64 0, .int .i64 0, .int .u64 0, .int .i64 0, .int .i64 0, .int .i64 0, .int .i64 0, .int .i64 0] := hk267; clear hk267
  have hz270 := hg269.size
  refine pl_nil ?_
  refine co_then ?_
  refine co_reg ?_
  refine pk0 (v := pt N3 6) h265 rfl fun a271 h271 => ?_; clear h265
  have hk272 := hk37.kept hg269 (by simp; omega)
  refine pk (v := lv) h271 rfl (rn_load1 rfl rfl Try.isAgg67 (hk272.cell rfl)) fun a273 h273 => ?_; clear h271
  refine pk0 (v := pt N23 6) h273 rfl fun a274 h274 => ?_; clear h273
  have hB280 := hb_at hB45 hg269 (by omega)
  refine pwD h274 rfl (op_store1 rfl rfl rfl (sl_one (hg.below hB280)) Try.sizeOf67 hk267' rfl) ?_; clear h274
  rintro _ w276 a275 ⟨hk277, hz278, hg279⟩ h275
  have hk277' : Blk w276 N23 73 #[.int .i64 d.k, .int .i64 0, .int .u64 0, .int .i64 d.ep, mv, .int .u64 d.fl, lv, .int .i64 0, .int .i64 0, .slice none 0 0, .int .u64 0, .int .i64 0, .int .u64 0, .int .i64 0, .int .i64 0, .int .i64 0, .int .i64 0, .int .i64 0] := hk277; clear hk277
  have hz281 := hg279.size
  refine pl_nil ?_
  refine co_blockN ?_
  refine co_then ?_
  refine co_seq ?_
  refine co_reg ?_
  refine pk (v := .agg #[.int .i64 d.k, .int .i64 0, .int .u64 0, .int .i64 d.ep, mv, .int .u64 d.fl, lv, .int .i64 0, .int .i64 0, .slice none 0 0, .int .u64 0, .int .i64 0, .int .u64 0, .int .i64 0, .int .i64 0, .int .i64 0, .int .i64 0, .int .i64 0]) h275 rfl (rn_loadN rfl rfl Try.underlying73 rfl (by kernel_rfl) hk277'.all) fun a282 h282 => ?_; clear h275
  have hB288 := hb_at hB280 hg279 (by omega)
  have hk289 := hk47.kept hg269 (by simp; omega)
  have hk290 := hk289.kept hg279 (by simp; omega)
  refine pwD h282 rfl (op_storeN rfl rfl rfl (all_cons rfl (all_cons rfl (all_cons rfl (all_cons rfl (all_cons (sl_one (hm.below hB288)) (all_cons rfl (all_cons (sl_one (hg.below hB288)) (all_cons rfl (all_cons rfl (all_cons rfl (all_cons rfl (all_cons rfl (all_cons rfl (all_cons rfl (all_cons rfl (all_cons rfl (all_cons rfl (all_cons rfl all_nil)))))))))))))))))) (by kernel_rfl) hk290 rfl) ?_; clear h282
  rintro _ w284 a283 ⟨hk285, hz286, hg287⟩ h283
  have hk285' : Blk w284 N11 73 #[.int .i64 d.k, .int .i64 0, .int .u64 0, .int .i64 d.ep, mv, .int .u64 d.fl, lv, .int .i64 0, .int .i64 0, .slice none 0 0, .int .u64 0, .int .i64 0, .int .u64 0, .int .i64 0, .int .i64 0, .int .i64 0, .int .i64 0, .int .i64 0] := hk285; clear hk285
  have hz291 := hg287.size
  refine pl_nil ?_
  refine co_then ?_
  refine wp_ret ?_
  refine co_retC (Q := fun _ _ _ => True) h283 rfl rfl hk285' Try.underlying73 rfl (by kernel_rfl) ?_
  have hB292 := hb_at hB288 hg287 (by omega)
  have hcl := cl_1 (d := d) (by omega)
  refine ⟨mv, lv, .slice none 0 0, by rw [hcl]; rfl, ?_, hB292⟩
  unfold CleanV; rw [hcl]
  exact ⟨fun _ hx => by first | exact hx | exact sl_nil _, fun _ hx => by first | exact hx | exact sl_nil _, fun _ hx => by first | exact hx | exact sl_nil _⟩
set_option maxRecDepth 100000 in
theorem nMuch_any (d : NoteD) (mv : Value) (lv : Value) (ev : Value) (w : World) (hm : SliceOf memE 2 w mv d.ms) (hg : SliceOf (intE .i64) 1 w lv d.lg) (he : SliceOf opE 3 w ev d.el) (hR : NoteR d) :
    Calls Try.prog 46 #[.agg #[.int .i64 d.k, .int .i64 d.n, .int .u64 d.t, .int .i64 d.ep, mv, .int .u64 d.fl, lv, .int .i64 d.ec, .int .i64 d.er, ev, .int .u64 d.ets, .int .i64 d.pid, .int .u64 d.pat, .int .i64 d.plf, .int .i64 d.sc, .int .i64 d.sr, .int .i64 d.se, .int .i64 d.sp]] w fun e w' => ∃ (q : Bool), e = .returned (.bool q) ∧ Below w.heap.size w w' := by
 have hB0 := Below.refl w.heap.size w
 have hl_hm := sl_len hm
 have hl_hg := sl_len hg
 have hl_he := sl_len he
 refine co_enter (n := 22) Try.func46 rfl rfl rfl [(0, .agg #[.int .i64 d.k, .int .i64 d.n, .int .u64 d.t, .int .i64 d.ep, mv, .int .u64 d.fl, lv, .int .i64 d.ec, .int .i64 d.er, ev, .int .u64 d.ets, .int .i64 d.pid, .int .u64 d.pat, .int .i64 d.plf, .int .i64 d.sc, .int .i64 d.sr, .int .i64 d.se, .int .i64 d.sp])] rfl (fun a h0 => ?_)
 refine co_seq ?_
 refine co_reg ?_
 refine pw h0 rfl (op_new (v := fun N => pt N 0) (T := 73) (cs := #[.int .i64 d.k, .int .i64 d.n, .int .u64 d.t, .int .i64 d.ep, mv, .int .u64 d.fl, lv, .int .i64 d.ec, .int .i64 d.er, ev, .int .u64 d.ets, .int .i64 d.pid, .int .u64 d.pat, .int .i64 d.plf, .int .i64 d.sc, .int .i64 d.sr, .int .i64 d.se, .int .i64 d.sp]) (by kernel_rfl) (by kernel_rfl) (by kernel_rfl)) ?_; clear h0
 rintro _ w2 a1 ⟨N3, rfl, hN6, hz7, hk5, hg4⟩ h1
 have hz8 := hg4.size
 try dsimp only at h1
 refine pk0 (v := .bool false) h1 rfl fun a9 h9 => ?_; clear h1
 refine pl_nil ?_
 refine co_then ?_
 refine co_seq ?_
 refine co_reg ?_
 refine pk0 (v := pt N3 3) h9 rfl fun a10 h10 => ?_; clear h9
 refine pk0 (v := pt N3 4) h10 rfl fun a11 h11 => ?_; clear h10
 refine pk (v := mv) h11 rfl (rn_load1 rfl rfl Try.isAgg54 (hk5.cell rfl)) fun a12 h12 => ?_; clear h11
 have hB13 := hb_new hB0 hg4
 refine pk (v := .int .i64 ((d.ms.length : Nat) : Int)) h12 rfl (rn_len rfl rfl Try.underlying54 (hm.below hB13)) fun a14 h14 => ?_; clear h12
 refine pk0 (v := .bool (decide (((d.ms.length : Nat) : Int) > 20))) h14 rfl fun a15 h15 => ?_; clear h14
 refine pk0 (v := .bool (decide (((d.ms.length : Nat) : Int) > 20))) h15 rfl fun a16 h16 => ?_; clear h15
 cases hc17 : (decide (((d.ms.length : Nat) : Int) > 20))
 ·
  rw [hc17] at h16
  have hp18 : ¬ (((d.ms.length : Nat) : Int) > 20) := of_decide_eq_false hc17
  clear hc17
  refine pk0 (v := pt N3 6) h16 rfl fun a19 h19 => ?_; clear h16
  refine pk (v := lv) h19 rfl (rn_load1 rfl rfl Try.isAgg67 (hk5.cell rfl)) fun a20 h20 => ?_; clear h19
  refine pk (v := .int .i64 ((d.lg.length : Nat) : Int)) h20 rfl (rn_len rfl rfl Try.underlying67 (hg.below hB13)) fun a21 h21 => ?_; clear h20
  refine pk0 (v := .bool (decide (((d.lg.length : Nat) : Int) > 20))) h21 rfl fun a22 h22 => ?_; clear h21
  refine pk0 (v := .bool (decide (((d.lg.length : Nat) : Int) > 20))) h22 rfl fun a23 h23 => ?_; clear h22
  refine pk0 (v := .bool (decide (((d.lg.length : Nat) : Int) > 20))) h23 rfl fun a24 h24 => ?_; clear h23
  cases hc25 : (decide (((d.lg.length : Nat) : Int) > 20))
  ·
   rw [hc25] at h24
   have hp26 : ¬ (((d.lg.length : Nat) : Int) > 20) := of_decide_eq_false hc25
   clear hc25
   refine pk0 (v := pt N3 7) h24 rfl fun a27 h27 => ?_; clear h24
   refine pk0 (v := pt N3 7) h27 rfl fun a28 h28 => ?_; clear h27
   refine pk0 (v := pt N3 9) h28 rfl fun a29 h29 => ?_; clear h28
   refine pk (v := ev) h29 rfl (rn_load1 rfl rfl Try.isAgg23 (hk5.cell rfl)) fun a30 h30 => ?_; clear h29
   refine pk (v := .int .i64 ((d.el.length : Nat) : Int)) h30 rfl (rn_len rfl rfl Try.underlying23 (he.below hB13)) fun a31 h31 => ?_; clear h30
   refine pk0 (v := .bool (decide (((d.el.length : Nat) : Int) > 20))) h31 rfl fun a32 h32 => ?_; clear h31
   refine pk0 (v := .bool (decide (((d.el.length : Nat) : Int) > 20))) h32 rfl fun a33 h33 => ?_; clear h32
   refine pk0 (v := .bool (decide (((d.el.length : Nat) : Int) > 20))) h33 rfl fun a34 h34 => ?_; clear h33
   refine pl_nil ?_
   refine co_then ?_
   refine wp_ret ?_
   refine co_ret1 h34 rfl rfl ?_
   exact ⟨_, rfl, hB13⟩
  ·
   rw [hc25] at h24
   have hp35 : ((d.lg.length : Nat) : Int) > 20 := of_decide_eq_true hc25
   clear hc25
   refine psk h24 rfl fun a36 h36 => ?_; clear h24
   refine psk h36 rfl fun a37 h37 => ?_; clear h36
   refine psk h37 rfl fun a38 h38 => ?_; clear h37
   refine psk h38 rfl fun a39 h39 => ?_; clear h38
   refine psk h39 rfl fun a40 h40 => ?_; clear h39
   refine psk h40 rfl fun a41 h41 => ?_; clear h40
   refine pk0 (v := .bool true) h41 rfl fun a42 h42 => ?_; clear h41
   refine pk0 (v := .bool true) h42 rfl fun a43 h43 => ?_; clear h42
   refine pl_nil ?_
   refine co_then ?_
   refine wp_ret ?_
   refine co_ret1 h43 rfl rfl ?_
   exact ⟨_, rfl, hB13⟩
 ·
  rw [hc17] at h16
  have hp44 : ((d.ms.length : Nat) : Int) > 20 := of_decide_eq_true hc17
  clear hc17
  refine psk h16 rfl fun a45 h45 => ?_; clear h16
  refine psk h45 rfl fun a46 h46 => ?_; clear h45
  refine psk h46 rfl fun a47 h47 => ?_; clear h46
  refine psk h47 rfl fun a48 h48 => ?_; clear h47
  refine pk0 (v := .bool true) h48 rfl fun a49 h49 => ?_; clear h48
  refine pk0 (v := .bool true) h49 rfl fun a50 h50 => ?_; clear h49
  refine psk h50 rfl fun a51 h51 => ?_; clear h50
  refine psk h51 rfl fun a52 h52 => ?_; clear h51
  refine psk h52 rfl fun a53 h53 => ?_; clear h52
  refine psk h53 rfl fun a54 h54 => ?_; clear h53
  refine psk h54 rfl fun a55 h55 => ?_; clear h54
  refine psk h55 rfl fun a56 h56 => ?_; clear h55
  refine pk0 (v := .bool true) h56 rfl fun a57 h57 => ?_; clear h56
  refine pk0 (v := .bool true) h57 rfl fun a58 h58 => ?_; clear h57
  refine pl_nil ?_
  refine co_then ?_
  refine wp_ret ?_
  refine co_ret1 h58 rfl rfl ?_
  exact ⟨_, rfl, hB13⟩
set_option maxRecDepth 100000 in
theorem noteBack_law (d : NoteD) (mv : Value) (lv : Value) (ev : Value) (s : ByteArray) (w : World) (hm : SliceOf memE 2 w mv d.ms) (hg : SliceOf (intE .i64) 1 w lv d.lg) (he : SliceOf opE 3 w ev d.el) (hR : NoteR d) (hsz : s.size ≤ 140737488351232) :
    Calls Try.prog 10 #[.agg #[.int .i64 d.k, .int .i64 d.n, .int .u64 d.t, .int .i64 d.ep, mv, .int .u64 d.fl, lv, .int .i64 d.ec, .int .i64 d.er, ev, .int .u64 d.ets, .int .i64 d.pid, .int .u64 d.pat, .int .i64 d.plf, .int .i64 d.sc, .int .i64 d.sr, .int .i64 d.se, .int .i64 d.sp], .string s] w fun e w' => e = .returned (.bool true) ∧ Below w.heap.size w w' := by
 have hb1 : chkN d = 0 → (noteOf (putN d)).2 = 0 := fun h => by rw [noteOf_put h hR]
 have hb2 : (noteOf s).2 = 0 → chkN (noteOf s).1 = 0 := fun h => (noteOf_back h).2
 have hB0 := Below.refl w.heap.size w
 have hl_hm := sl_len hm
 have hl_hg := sl_len hg
 have hl_he := sl_len he
 refine co_enter (n := 70) Try.func10 rfl rfl rfl [(0, .agg #[.int .i64 d.k, .int .i64 d.n, .int .u64 d.t, .int .i64 d.ep, mv, .int .u64 d.fl, lv, .int .i64 d.ec, .int .i64 d.er, ev, .int .u64 d.ets, .int .i64 d.pid, .int .u64 d.pat, .int .i64 d.plf, .int .i64 d.sc, .int .i64 d.sr, .int .i64 d.se, .int .i64 d.sp]), (1, .string s)] rfl (fun a h0 => ?_)
 refine co_seq ?_
 refine co_reg ?_
 refine pw h0 rfl (op_new (v := fun N => pt N 0) (T := 73) (cs := #[.int .i64 d.k, .int .i64 d.n, .int .u64 d.t, .int .i64 d.ep, mv, .int .u64 d.fl, lv, .int .i64 d.ec, .int .i64 d.er, ev, .int .u64 d.ets, .int .i64 d.pid, .int .u64 d.pat, .int .i64 d.plf, .int .i64 d.sc, .int .i64 d.sr, .int .i64 d.se, .int .i64 d.sp]) (by kernel_rfl) (by kernel_rfl) (by kernel_rfl)) ?_; clear h0
 rintro _ w2 a1 ⟨N3, rfl, hN6, hz7, hk5, hg4⟩ h1
 have hz8 := hg4.size
 try dsimp only at h1
 refine pk0 (v := .bool false) h1 rfl fun a9 h9 => ?_; clear h1
 refine pl_nil ?_
 refine co_then ?_
 refine co_seq ?_
 refine co_seq ?_
 refine co_reg ?_
 refine pk (v := .agg #[.int .i64 d.k, .int .i64 d.n, .int .u64 d.t, .int .i64 d.ep, mv, .int .u64 d.fl, lv, .int .i64 d.ec, .int .i64 d.er, ev, .int .u64 d.ets, .int .i64 d.pid, .int .u64 d.pat, .int .i64 d.plf, .int .i64 d.sc, .int .i64 d.sr, .int .i64 d.se, .int .i64 d.sp]) h9 rfl (rn_loadN rfl rfl Try.underlying73 rfl (by kernel_rfl) hk5.all) fun a10 h10 => ?_; clear h9
 have hB13 := hb_new hB0 hg4
 refine pw h10 rfl (op_call (args := #[.agg #[.int .i64 d.k, .int .i64 d.n, .int .u64 d.t, .int .i64 d.ep, mv, .int .u64 d.fl, lv, .int .i64 d.ec, .int .i64 d.er, ev, .int .u64 d.ets, .int .i64 d.pid, .int .u64 d.pat, .int .i64 d.plf, .int .i64 d.sc, .int .i64 d.sr, .int .i64 d.se, .int .i64 d.sp]]) (R := fun res xw => ∃ q : Bool, res = .bool q ∧ Below w2.heap.size w2 xw) rfl rfl rfl (by kernel_rfl) (by kernel_rfl) (Try.call46 _ _) (nMuch_any d mv lv ev w2 (hm.below hB13) (hg.below hB13) (he.below hB13) hR) (by rintro e x ⟨q, rfl, hb15⟩; exact ⟨_, rfl, ⟨q, rfl, hb15⟩⟩)) ?_; clear h10
 rintro _ w12 a11 ⟨q14, rfl, hb15⟩ h11
 have hz16 := hb15.size
 refine pk0 (v := .bool q14) h11 rfl fun a17 h17 => ?_; clear h11
 have hB19 := hb_call hB13 hb15
 cases hc18 : (q14)
 ·
  rw [hc18] at h17
  refine pk0 (v := .string s) h17 rfl fun a20 h20 => ?_; clear h17
  refine pk (v := .int .i64 ((s.size : Nat) : Int)) h20 rfl (rn_lenStr rfl rfl Try.underlying9) fun a21 h21 => ?_; clear h20
  refine pk0 (v := .bool (decide (((s.size : Nat) : Int) > 3000))) h21 rfl fun a22 h22 => ?_; clear h21
  refine pk0 (v := .bool (decide (((s.size : Nat) : Int) > 3000))) h22 rfl fun a23 h23 => ?_; clear h22
  refine pl_nil ?_
  refine co_then ?_
  cases hc24 : (decide (((s.size : Nat) : Int) > 3000))
  ·
   rw [hc24] at h23
   have hp25 : ¬ (((s.size : Nat) : Int) > 3000) := of_decide_eq_false hc24
   clear hc24
   refine co_false h23 rfl ?_
   refine wp_skip ?_
   refine co_then ?_
   refine co_seq ?_
   refine co_reg ?_
   have hk26 := hk5.below hb15
   refine pk (v := .agg #[.int .i64 d.k, .int .i64 d.n, .int .u64 d.t, .int .i64 d.ep, mv, .int .u64 d.fl, lv, .int .i64 d.ec, .int .i64 d.er, ev, .int .u64 d.ets, .int .i64 d.pid, .int .u64 d.pat, .int .i64 d.plf, .int .i64 d.sc, .int .i64 d.sr, .int .i64 d.se, .int .i64 d.sp]) h23 rfl (rn_loadN rfl rfl Try.underlying73 rfl (by kernel_rfl) hk26.all) fun a27 h27 => ?_; clear h23
   refine pw h27 rfl (op_call (args := #[.agg #[.int .i64 d.k, .int .i64 d.n, .int .u64 d.t, .int .i64 d.ep, mv, .int .u64 d.fl, lv, .int .i64 d.ec, .int .i64 d.er, ev, .int .u64 d.ets, .int .i64 d.pid, .int .u64 d.pat, .int .i64 d.plf, .int .i64 d.sc, .int .i64 d.sr, .int .i64 d.se, .int .i64 d.sp]]) (R := fun res xw => res = .tuple #[.string (putN d), .int .i64 (chkN d)] ∧ Below w12.heap.size w12 xw) rfl rfl rfl (by kernel_rfl) (by kernel_rfl) (Try.call47 _ _) (nPut_any d mv lv ev w12 (hm.below hB19) (hg.below hB19) (he.below hB19) hR) (by rintro e x ⟨rfl, hb30⟩; exact ⟨_, rfl, ⟨rfl, hb30⟩⟩)) ?_; clear h27
   rintro _ w29 a28 ⟨rfl, hb30⟩ h28
   have hz31 := hb30.size
   refine pk0 (v := .tuple #[.string (putN d), .int .i64 (chkN d)]) h28 rfl fun a32 h32 => ?_; clear h28
   refine pk0 (v := .string (putN d)) h32 rfl fun a33 h33 => ?_; clear h32
   refine pk0 (v := .int .i64 (chkN d)) h33 rfl fun a34 h34 => ?_; clear h33
   refine pk0 (v := .string (putN d)) h34 rfl fun a35 h35 => ?_; clear h34
   refine pk0 (v := .int .i64 (chkN d)) h35 rfl fun a36 h36 => ?_; clear h35
   refine pl_nil ?_
   refine co_then ?_
   refine co_seq ?_
   refine co_seq ?_
   refine co_reg ?_
   refine pk0 (v := .int .i64 (chkN d)) h36 rfl fun a37 h37 => ?_; clear h36
   refine pk0 (v := .bool (chkN d == 0)) h37 rfl fun a38 h38 => ?_; clear h37
   refine pl_nil ?_
   refine co_then ?_
   have hB40 := hb_call hB19 hb30
   cases hc39 : (chkN d == 0)
   ·
    rw [hc39] at h38
    have hp41 : ¬ (chkN d = 0) := by first | simpa using hc39 | simpa [and_assoc] using hc39
    clear hc39
    refine co_false h38 rfl ?_
    refine wp_skip ?_
    refine co_then ?_
    refine co_seq ?_
    refine co_reg ?_
    refine pk0 (v := .string s) h38 rfl fun a42 h42 => ?_; clear h38
    refine pw h42 rfl (op_call (args := #[.string s]) (R := fun res xw => ∃ mv : Value, ∃ lv : Value, ∃ ev : Value, res = .tuple #[.agg #[.int .i64 (((noteOf s).1).k), .int .i64 (((noteOf s).1).n), .int .u64 (((noteOf s).1).t), .int .i64 (((noteOf s).1).ep), mv, .int .u64 (((noteOf s).1).fl), lv, .int .i64 (((noteOf s).1).ec), .int .i64 (((noteOf s).1).er), ev, .int .u64 (((noteOf s).1).ets), .int .i64 (((noteOf s).1).pid), .int .u64 (((noteOf s).1).pat), .int .i64 (((noteOf s).1).plf), .int .i64 (((noteOf s).1).sc), .int .i64 (((noteOf s).1).sr), .int .i64 (((noteOf s).1).se), .int .i64 (((noteOf s).1).sp)], .int .i64 ((noteOf s).2)] ∧ xw.ownsRow w29.heap.size 185 2 mv ((noteOf s).1).ms.length (((noteOf s).1).ms.flatMap memE) ∧ xw.ownsRow w29.heap.size 3 1 lv ((noteOf s).1).lg.length (((noteOf s).1).lg.flatMap (intE .i64)) ∧ xw.ownsRow w29.heap.size 86 3 ev ((noteOf s).1).el.length (((noteOf s).1).el.flatMap opE) ∧ Below w29.heap.size w29 xw) rfl rfl rfl (by kernel_rfl) (by kernel_rfl) (Try.call43 _ _) (nOf_any s ((noteOf s).1) ((noteOf s).2) w29 (by first | omega | (simp; done) | (simp; omega)) rfl) (by rintro e x ⟨mv, lv, ev, rfl, hq48, hq49, hq50, hb51⟩; exact ⟨_, rfl, ⟨mv, lv, ev, rfl, hq48, hq49, hq50, hb51⟩⟩)) ?_; clear h42
    rintro _ w44 a43 ⟨mv45, lv46, ev47, rfl, hq48, hq49, hq50, hb51⟩ h43
    have hz52 := hb51.size
    have hl53 := sl_len (row_sl hq48 memE_len)
    have hl54 := sl_len (row_sl hq49 (intE_len .i64))
    have hl55 := sl_len (row_sl hq50 opE_len)
    refine pk0 (v := .tuple #[.agg #[.int .i64 (((noteOf s).1).k), .int .i64 (((noteOf s).1).n), .int .u64 (((noteOf s).1).t), .int .i64 (((noteOf s).1).ep), mv45, .int .u64 (((noteOf s).1).fl), lv46, .int .i64 (((noteOf s).1).ec), .int .i64 (((noteOf s).1).er), ev47, .int .u64 (((noteOf s).1).ets), .int .i64 (((noteOf s).1).pid), .int .u64 (((noteOf s).1).pat), .int .i64 (((noteOf s).1).plf), .int .i64 (((noteOf s).1).sc), .int .i64 (((noteOf s).1).sr), .int .i64 (((noteOf s).1).se), .int .i64 (((noteOf s).1).sp)], .int .i64 ((noteOf s).2)]) h43 rfl fun a56 h56 => ?_; clear h43
    refine pk0 (v := .agg #[.int .i64 (((noteOf s).1).k), .int .i64 (((noteOf s).1).n), .int .u64 (((noteOf s).1).t), .int .i64 (((noteOf s).1).ep), mv45, .int .u64 (((noteOf s).1).fl), lv46, .int .i64 (((noteOf s).1).ec), .int .i64 (((noteOf s).1).er), ev47, .int .u64 (((noteOf s).1).ets), .int .i64 (((noteOf s).1).pid), .int .u64 (((noteOf s).1).pat), .int .i64 (((noteOf s).1).plf), .int .i64 (((noteOf s).1).sc), .int .i64 (((noteOf s).1).sr), .int .i64 (((noteOf s).1).se), .int .i64 (((noteOf s).1).sp)]) h56 rfl fun a57 h57 => ?_; clear h56
    refine pk0 (v := .int .i64 ((noteOf s).2)) h57 rfl fun a58 h58 => ?_; clear h57
    refine pw h58 rfl (op_new (v := fun N => pt N 0) (T := 73) (cs := #[.int .i64 0, .int .i64 0, .int .u64 0, .int .i64 0, .slice none 0 0, .int .u64 0, .slice none 0 0, .int .i64 0, .int .i64 0, .slice none 0 0, .int .u64 0, .int .i64 0, .int .u64 0, .int .i64 0, .int .i64 0, .int .i64 0, .int .i64 0, .int .i64 0]) (by kernel_rfl) (by kernel_rfl) (by kernel_rfl)) ?_; clear h58
    rintro _ w60 a59 ⟨N61, rfl, hN64, hz65, hk63, hg62⟩ h59
    have ha66 := row_fresh hq48 hN64
    have ha67 := row_fresh hq49 hN64
    have ha68 := row_fresh hq50 hN64
    have hz69 := hg62.size
    try dsimp only at h59
    have hr75 := row_kept_new hq50 hg62
    have hr76 := row_kept_new hq49 hg62
    have hr77 := row_kept_new hq48 hg62
    refine pwD h59 rfl (op_storeN rfl rfl rfl (all_cons rfl (all_cons rfl (all_cons rfl (all_cons rfl (all_cons (row_one hr77) (all_cons rfl (all_cons (row_one hr76) (all_cons rfl (all_cons rfl (all_cons (row_one hr75) (all_cons rfl (all_cons rfl (all_cons rfl (all_cons rfl (all_cons rfl (all_cons rfl (all_cons rfl (all_cons rfl all_nil)))))))))))))))))) (by kernel_rfl) hk63 rfl) ?_; clear h59
    rintro _ w71 a70 ⟨hk72, hz73, hg74⟩ h70
    have hk72' : Blk w71 N61 73 #[.int .i64 (((noteOf s).1).k), .int .i64 (((noteOf s).1).n), .int .u64 (((noteOf s).1).t), .int .i64 (((noteOf s).1).ep), mv45, .int .u64 (((noteOf s).1).fl), lv46, .int .i64 (((noteOf s).1).ec), .int .i64 (((noteOf s).1).er), ev47, .int .u64 (((noteOf s).1).ets), .int .i64 (((noteOf s).1).pid), .int .u64 (((noteOf s).1).pat), .int .i64 (((noteOf s).1).plf), .int .i64 (((noteOf s).1).sc), .int .i64 (((noteOf s).1).sr), .int .i64 (((noteOf s).1).se), .int .i64 (((noteOf s).1).sp)] := hk72; clear hk72
    have hz78 := hg74.size
    refine pk0 (v := .int .i64 ((noteOf s).2)) h70 rfl fun a79 h79 => ?_; clear h70
    refine pl_nil ?_
    refine co_then ?_
    refine co_seq ?_
    refine co_seq ?_
    refine co_reg ?_
    refine pk0 (v := .int .i64 ((noteOf s).2)) h79 rfl fun a80 h80 => ?_; clear h79
    refine pk0 (v := .bool (((noteOf s).2) != 0)) h80 rfl fun a81 h81 => ?_; clear h80
    refine pl_nil ?_
    refine co_then ?_
    have hB83 := hb_call hB40 hb51
    have hB84 := hb_new hB83 hg62
    have hB85 := hb_at hB84 hg74 (by omega)
    have hk86 := hk26.below hb30
    have hk87 := hk86.below hb51
    have hk88 := hk87.kept hg62 (by simp)
    have hk89 := hk88.kept hg74 (by simp; omega)
    cases hc82 : (((noteOf s).2) != 0)
    ·
     rw [hc82] at h81
     have hp90 : ¬ (((noteOf s).2) ≠ 0) := by first | simpa using hc82 | simpa [and_assoc] using hc82
     clear hc82
     refine co_false h81 rfl ?_
     refine wp_skip ?_
     refine co_then ?_
     refine co_seq ?_
     refine co_reg ?_
     refine pk (v := .agg #[.int .i64 (((noteOf s).1).k), .int .i64 (((noteOf s).1).n), .int .u64 (((noteOf s).1).t), .int .i64 (((noteOf s).1).ep), mv45, .int .u64 (((noteOf s).1).fl), lv46, .int .i64 (((noteOf s).1).ec), .int .i64 (((noteOf s).1).er), ev47, .int .u64 (((noteOf s).1).ets), .int .i64 (((noteOf s).1).pid), .int .u64 (((noteOf s).1).pat), .int .i64 (((noteOf s).1).plf), .int .i64 (((noteOf s).1).sc), .int .i64 (((noteOf s).1).sr), .int .i64 (((noteOf s).1).se), .int .i64 (((noteOf s).1).sp)]) h81 rfl (rn_loadN rfl rfl Try.underlying73 rfl (by kernel_rfl) hk72'.all) fun a91 h91 => ?_; clear h81
     have hr94 := row_kept_at hr77 hg74 (ha66)
     have hr95 := row_kept_at hr76 hg74 (ha67)
     have hr96 := row_kept_at hr75 hg74 (ha68)
     refine pw h91 rfl (op_call (args := #[.agg #[.int .i64 (((noteOf s).1).k), .int .i64 (((noteOf s).1).n), .int .u64 (((noteOf s).1).t), .int .i64 (((noteOf s).1).ep), mv45, .int .u64 (((noteOf s).1).fl), lv46, .int .i64 (((noteOf s).1).ec), .int .i64 (((noteOf s).1).er), ev47, .int .u64 (((noteOf s).1).ets), .int .i64 (((noteOf s).1).pid), .int .u64 (((noteOf s).1).pat), .int .i64 (((noteOf s).1).plf), .int .i64 (((noteOf s).1).sc), .int .i64 (((noteOf s).1).sr), .int .i64 (((noteOf s).1).se), .int .i64 (((noteOf s).1).sp)]]) (R := fun res xw => res = .tuple #[.string (putN ((noteOf s).1)), .int .i64 (chkN ((noteOf s).1))] ∧ Below w71.heap.size w71 xw) rfl rfl rfl (by kernel_rfl) (by kernel_rfl) (Try.call47 _ _) (nPut_any ((noteOf s).1) mv45 lv46 ev47 w71 (row_sl hr94 memE_len) (row_sl hr95 (intE_len .i64)) (row_sl hr96 opE_len) (noteOf_R s)) (by rintro e x ⟨rfl, hb97⟩; exact ⟨_, rfl, ⟨rfl, hb97⟩⟩)) ?_; clear h91
     rintro _ w93 a92 ⟨rfl, hb97⟩ h92
     have hz98 := hb97.size
     refine pk0 (v := .tuple #[.string (putN ((noteOf s).1)), .int .i64 (chkN ((noteOf s).1))]) h92 rfl fun a99 h99 => ?_; clear h92
     refine pk0 (v := .string (putN ((noteOf s).1))) h99 rfl fun a100 h100 => ?_; clear h99
     refine pk0 (v := .int .i64 (chkN ((noteOf s).1))) h100 rfl fun a101 h101 => ?_; clear h100
     refine pk0 (v := .string (putN ((noteOf s).1))) h101 rfl fun a102 h102 => ?_; clear h101
     refine pk0 (v := .int .i64 (chkN ((noteOf s).1))) h102 rfl fun a103 h103 => ?_; clear h102
     refine pl_nil ?_
     refine co_then ?_
     refine co_seq ?_
     refine co_reg ?_
     refine pk0 (v := .string (putN ((noteOf s).1))) h103 rfl fun a104 h104 => ?_; clear h103
     refine pk0 (v := .string s) h104 rfl fun a105 h105 => ?_; clear h104
     refine pk0 (v := .bool ((putN ((noteOf s).1) : ByteArray).toList == s.toList)) h105 rfl fun a106 h106 => ?_; clear h105
     refine pk0 (v := .bool ((putN ((noteOf s).1) : ByteArray).toList == s.toList)) h106 rfl fun a107 h107 => ?_; clear h106
     have hc108 : ((putN ((noteOf s).1) : ByteArray).toList == s.toList) = true := by rw [(noteOf_back (s := s) (by omega)).1]; simp
     rw [hc108] at h107; clear hc108
     refine pk0 (v := .int .i64 (chkN ((noteOf s).1))) h107 rfl fun a109 h109 => ?_; clear h107
     refine pk0 (v := .bool (chkN ((noteOf s).1) == 0)) h109 rfl fun a110 h110 => ?_; clear h109
     refine pk0 (v := .bool (chkN ((noteOf s).1) == 0)) h110 rfl fun a111 h111 => ?_; clear h110
     refine pk0 (v := .bool (chkN ((noteOf s).1) == 0)) h111 rfl fun a112 h112 => ?_; clear h111
     have hc113 : (chkN ((noteOf s).1) == 0) = true := by first | (simp; done) | (simp; omega)
     rw [hc113] at h112; clear hc113
     refine pw h112 rfl (op_call (args := #[]) (R := fun res xw => res = .bool true ∧ Below w93.heap.size w93 xw) rfl rfl rfl (by kernel_rfl) (by kernel_rfl) (Try.call42 _ _) (awake10_any  w93 ) (by rintro e x ⟨rfl, hb116⟩; exact ⟨_, rfl, ⟨rfl, hb116⟩⟩)) ?_; clear h112
     rintro _ w115 a114 ⟨rfl, hb116⟩ h114
     have hz117 := hb116.size
     refine pk0 (v := .bool true) h114 rfl fun a118 h118 => ?_; clear h114
     refine pk0 (v := .bool true) h118 rfl fun a119 h119 => ?_; clear h118
     refine pl_nil ?_
     refine co_then ?_
     refine wp_ret ?_
     refine co_ret1 h119 rfl rfl ?_
     have hB120 := hb_call hB85 hb97
     have hB121 := hb_call hB120 hb116
     exact ⟨rfl, hB121⟩
    ·
     rw [hc82] at h81
     have hp122 : ((noteOf s).2) ≠ 0 := by first | simpa using hc82 | simpa [and_assoc] using hc82
     clear hc82
     refine co_true h81 rfl ?_
     refine co_seq ?_
     refine co_reg ?_
     refine pk (v := .agg #[.int .i64 (((noteOf s).1).k), .int .i64 (((noteOf s).1).n), .int .u64 (((noteOf s).1).t), .int .i64 (((noteOf s).1).ep), mv45, .int .u64 (((noteOf s).1).fl), lv46, .int .i64 (((noteOf s).1).ec), .int .i64 (((noteOf s).1).er), ev47, .int .u64 (((noteOf s).1).ets), .int .i64 (((noteOf s).1).pid), .int .u64 (((noteOf s).1).pat), .int .i64 (((noteOf s).1).plf), .int .i64 (((noteOf s).1).sc), .int .i64 (((noteOf s).1).sr), .int .i64 (((noteOf s).1).se), .int .i64 (((noteOf s).1).sp)]) h81 rfl (rn_loadN rfl rfl Try.underlying73 rfl (by kernel_rfl) hk72'.all) fun a123 h123 => ?_; clear h81
     refine pk0 (v := .agg #[.int .i64 0, .int .i64 0, .int .u64 0, .int .i64 0, .slice none 0 0, .int .u64 0, .slice none 0 0, .int .i64 0, .int .i64 0, .slice none 0 0, .int .u64 0, .int .i64 0, .int .u64 0, .int .i64 0, .int .i64 0, .int .i64 0, .int .i64 0, .int .i64 0]) h123 rfl fun a124 h124 => ?_; clear h123
     have hr127 := row_kept_at hr77 hg74 (ha66)
     have hr128 := row_kept_at hr76 hg74 (ha67)
     have hr129 := row_kept_at hr75 hg74 (ha68)
     refine pw h124 rfl (op_call (args := #[.agg #[.int .i64 (((noteOf s).1).k), .int .i64 (((noteOf s).1).n), .int .u64 (((noteOf s).1).t), .int .i64 (((noteOf s).1).ep), mv45, .int .u64 (((noteOf s).1).fl), lv46, .int .i64 (((noteOf s).1).ec), .int .i64 (((noteOf s).1).er), ev47, .int .u64 (((noteOf s).1).ets), .int .i64 (((noteOf s).1).pid), .int .u64 (((noteOf s).1).pat), .int .i64 (((noteOf s).1).plf), .int .i64 (((noteOf s).1).sc), .int .i64 (((noteOf s).1).sr), .int .i64 (((noteOf s).1).se), .int .i64 (((noteOf s).1).sp)], .agg #[.int .i64 0, .int .i64 0, .int .u64 0, .int .i64 0, .slice none 0 0, .int .u64 0, .slice none 0 0, .int .i64 0, .int .i64 0, .slice none 0 0, .int .u64 0, .int .i64 0, .int .u64 0, .int .i64 0, .int .i64 0, .int .i64 0, .int .i64 0, .int .i64 0]]) (R := fun res xw => res = .bool (sameN ((noteOf s).1) (NoteD.mk 0 0 0 0 ([]) 0 ([]) 0 0 ([]) 0 0 0 0 0 0 0 0)) ∧ Below w71.heap.size w71 xw) rfl rfl rfl (by kernel_rfl) (by kernel_rfl) (Try.call45 _ _) (rnSame_any ((noteOf s).1) mv45 lv46 ev47 (NoteD.mk 0 0 0 0 ([]) 0 ([]) 0 0 ([]) 0 0 0 0 0 0 0 0) (.slice none 0 0) (.slice none 0 0) (.slice none 0 0) w71 (row_sl hr127 memE_len) (row_sl hr128 (intE_len .i64)) (row_sl hr129 opE_len) (noteOf_R _) (sl_nil _) (sl_nil _) (sl_nil _) (zN_R 0)) (by rintro e x ⟨rfl, hb130⟩; exact ⟨_, rfl, ⟨rfl, hb130⟩⟩)) ?_; clear h124
     rintro _ w126 a125 ⟨rfl, hb130⟩ h125
     have hz131 := hb130.size
     refine pk0 (v := .bool (sameN ((noteOf s).1) (NoteD.mk 0 0 0 0 ([]) 0 ([]) 0 0 ([]) 0 0 0 0 0 0 0 0))) h125 rfl fun a132 h132 => ?_; clear h125
     have hc133 : (sameN ((noteOf s).1) (NoteD.mk 0 0 0 0 ([]) 0 ([]) 0 0 ([]) 0 0 0 0 0 0 0 0)) = true := by rw [noteOf_zero (by assumption)]; exact sameN_refl _
     rw [hc133] at h132; clear hc133
     refine pw h132 rfl (op_call (args := #[]) (R := fun res xw => res = .bool true ∧ Below w126.heap.size w126 xw) rfl rfl rfl (by kernel_rfl) (by kernel_rfl) (Try.call42 _ _) (awake10_any  w126 ) (by rintro e x ⟨rfl, hb136⟩; exact ⟨_, rfl, ⟨rfl, hb136⟩⟩)) ?_; clear h132
     rintro _ w135 a134 ⟨rfl, hb136⟩ h134
     have hz137 := hb136.size
     refine pk0 (v := .bool true) h134 rfl fun a138 h138 => ?_; clear h134
     refine pk0 (v := .bool true) h138 rfl fun a139 h139 => ?_; clear h138
     refine pl_nil ?_
     refine co_then ?_
     refine wp_ret ?_
     refine co_thenR ?_
     refine co_ret1 h139 rfl rfl ?_
     have hB140 := hb_call hB85 hb130
     have hB141 := hb_call hB140 hb136
     exact ⟨rfl, hB141⟩
   ·
    rw [hc39] at h38
    have hp142 : chkN d = 0 := by first | simpa using hc39 | simpa [and_assoc] using hc39
    clear hc39
    refine co_true h38 rfl ?_
    refine co_seq ?_
    refine co_reg ?_
    refine pk0 (v := .string (putN d)) h38 rfl fun a143 h143 => ?_; clear h38
    refine pw h143 rfl (op_call (args := #[.string (putN d)]) (R := fun res xw => ∃ mv : Value, ∃ lv : Value, ∃ ev : Value, res = .tuple #[.agg #[.int .i64 (((noteOf (putN d)).1).k), .int .i64 (((noteOf (putN d)).1).n), .int .u64 (((noteOf (putN d)).1).t), .int .i64 (((noteOf (putN d)).1).ep), mv, .int .u64 (((noteOf (putN d)).1).fl), lv, .int .i64 (((noteOf (putN d)).1).ec), .int .i64 (((noteOf (putN d)).1).er), ev, .int .u64 (((noteOf (putN d)).1).ets), .int .i64 (((noteOf (putN d)).1).pid), .int .u64 (((noteOf (putN d)).1).pat), .int .i64 (((noteOf (putN d)).1).plf), .int .i64 (((noteOf (putN d)).1).sc), .int .i64 (((noteOf (putN d)).1).sr), .int .i64 (((noteOf (putN d)).1).se), .int .i64 (((noteOf (putN d)).1).sp)], .int .i64 ((noteOf (putN d)).2)] ∧ xw.ownsRow w29.heap.size 185 2 mv ((noteOf (putN d)).1).ms.length (((noteOf (putN d)).1).ms.flatMap memE) ∧ xw.ownsRow w29.heap.size 3 1 lv ((noteOf (putN d)).1).lg.length (((noteOf (putN d)).1).lg.flatMap (intE .i64)) ∧ xw.ownsRow w29.heap.size 86 3 ev ((noteOf (putN d)).1).el.length (((noteOf (putN d)).1).el.flatMap opE) ∧ Below w29.heap.size w29 xw) rfl rfl rfl (by kernel_rfl) (by kernel_rfl) (Try.call43 _ _) (nOf_any (putN d) ((noteOf (putN d)).1) ((noteOf (putN d)).2) w29 putN_sz rfl) (by rintro e x ⟨mv, lv, ev, rfl, hq149, hq150, hq151, hb152⟩; exact ⟨_, rfl, ⟨mv, lv, ev, rfl, hq149, hq150, hq151, hb152⟩⟩)) ?_; clear h143
    rintro _ w145 a144 ⟨mv146, lv147, ev148, rfl, hq149, hq150, hq151, hb152⟩ h144
    have hz153 := hb152.size
    have hl154 := sl_len (row_sl hq149 memE_len)
    have hl155 := sl_len (row_sl hq150 (intE_len .i64))
    have hl156 := sl_len (row_sl hq151 opE_len)
    refine pk0 (v := .tuple #[.agg #[.int .i64 (((noteOf (putN d)).1).k), .int .i64 (((noteOf (putN d)).1).n), .int .u64 (((noteOf (putN d)).1).t), .int .i64 (((noteOf (putN d)).1).ep), mv146, .int .u64 (((noteOf (putN d)).1).fl), lv147, .int .i64 (((noteOf (putN d)).1).ec), .int .i64 (((noteOf (putN d)).1).er), ev148, .int .u64 (((noteOf (putN d)).1).ets), .int .i64 (((noteOf (putN d)).1).pid), .int .u64 (((noteOf (putN d)).1).pat), .int .i64 (((noteOf (putN d)).1).plf), .int .i64 (((noteOf (putN d)).1).sc), .int .i64 (((noteOf (putN d)).1).sr), .int .i64 (((noteOf (putN d)).1).se), .int .i64 (((noteOf (putN d)).1).sp)], .int .i64 ((noteOf (putN d)).2)]) h144 rfl fun a157 h157 => ?_; clear h144
    refine pk0 (v := .agg #[.int .i64 (((noteOf (putN d)).1).k), .int .i64 (((noteOf (putN d)).1).n), .int .u64 (((noteOf (putN d)).1).t), .int .i64 (((noteOf (putN d)).1).ep), mv146, .int .u64 (((noteOf (putN d)).1).fl), lv147, .int .i64 (((noteOf (putN d)).1).ec), .int .i64 (((noteOf (putN d)).1).er), ev148, .int .u64 (((noteOf (putN d)).1).ets), .int .i64 (((noteOf (putN d)).1).pid), .int .u64 (((noteOf (putN d)).1).pat), .int .i64 (((noteOf (putN d)).1).plf), .int .i64 (((noteOf (putN d)).1).sc), .int .i64 (((noteOf (putN d)).1).sr), .int .i64 (((noteOf (putN d)).1).se), .int .i64 (((noteOf (putN d)).1).sp)]) h157 rfl fun a158 h158 => ?_; clear h157
    refine pk0 (v := .int .i64 ((noteOf (putN d)).2)) h158 rfl fun a159 h159 => ?_; clear h158
    refine pw h159 rfl (op_new (v := fun N => pt N 0) (T := 73) (cs := #[.int .i64 0, .int .i64 0, .int .u64 0, .int .i64 0, .slice none 0 0, .int .u64 0, .slice none 0 0, .int .i64 0, .int .i64 0, .slice none 0 0, .int .u64 0, .int .i64 0, .int .u64 0, .int .i64 0, .int .i64 0, .int .i64 0, .int .i64 0, .int .i64 0]) (by kernel_rfl) (by kernel_rfl) (by kernel_rfl)) ?_; clear h159
    rintro _ w161 a160 ⟨N162, rfl, hN165, hz166, hk164, hg163⟩ h160
    have ha167 := row_fresh hq149 hN165
    have ha168 := row_fresh hq150 hN165
    have ha169 := row_fresh hq151 hN165
    have hz170 := hg163.size
    try dsimp only at h160
    have hr176 := row_kept_new hq151 hg163
    have hr177 := row_kept_new hq150 hg163
    have hr178 := row_kept_new hq149 hg163
    refine pwD h160 rfl (op_storeN rfl rfl rfl (all_cons rfl (all_cons rfl (all_cons rfl (all_cons rfl (all_cons (row_one hr178) (all_cons rfl (all_cons (row_one hr177) (all_cons rfl (all_cons rfl (all_cons (row_one hr176) (all_cons rfl (all_cons rfl (all_cons rfl (all_cons rfl (all_cons rfl (all_cons rfl (all_cons rfl (all_cons rfl all_nil)))))))))))))))))) (by kernel_rfl) hk164 rfl) ?_; clear h160
    rintro _ w172 a171 ⟨hk173, hz174, hg175⟩ h171
    have hk173' : Blk w172 N162 73 #[.int .i64 (((noteOf (putN d)).1).k), .int .i64 (((noteOf (putN d)).1).n), .int .u64 (((noteOf (putN d)).1).t), .int .i64 (((noteOf (putN d)).1).ep), mv146, .int .u64 (((noteOf (putN d)).1).fl), lv147, .int .i64 (((noteOf (putN d)).1).ec), .int .i64 (((noteOf (putN d)).1).er), ev148, .int .u64 (((noteOf (putN d)).1).ets), .int .i64 (((noteOf (putN d)).1).pid), .int .u64 (((noteOf (putN d)).1).pat), .int .i64 (((noteOf (putN d)).1).plf), .int .i64 (((noteOf (putN d)).1).sc), .int .i64 (((noteOf (putN d)).1).sr), .int .i64 (((noteOf (putN d)).1).se), .int .i64 (((noteOf (putN d)).1).sp)] := hk173; clear hk173
    have hz179 := hg175.size
    refine pk0 (v := .int .i64 ((noteOf (putN d)).2)) h171 rfl fun a180 h180 => ?_; clear h171
    refine pl_nil ?_
    refine co_then ?_
    refine co_seq ?_
    refine dr_gen (fun x => Below w.heap.size w x ∧ Blk x N3 73 #[.int .i64 d.k, .int .i64 d.n, .int .u64 d.t, .int .i64 d.ep, mv, .int .u64 d.fl, lv, .int .i64 d.ec, .int .i64 d.er, ev, .int .u64 d.ets, .int .i64 d.pid, .int .u64 d.pat, .int .i64 d.plf, .int .i64 d.sc, .int .i64 d.sr, .int .i64 d.se, .int .i64 d.sp] ∧ Blk x N162 73 #[.int .i64 (((noteOf (putN d)).1).k), .int .i64 (((noteOf (putN d)).1).n), .int .u64 (((noteOf (putN d)).1).t), .int .i64 (((noteOf (putN d)).1).ep), mv146, .int .u64 (((noteOf (putN d)).1).fl), lv147, .int .i64 (((noteOf (putN d)).1).ec), .int .i64 (((noteOf (putN d)).1).er), ev148, .int .u64 (((noteOf (putN d)).1).ets), .int .i64 (((noteOf (putN d)).1).pid), .int .u64 (((noteOf (putN d)).1).pat), .int .i64 (((noteOf (putN d)).1).plf), .int .i64 (((noteOf (putN d)).1).sc), .int .i64 (((noteOf (putN d)).1).sr), .int .i64 (((noteOf (putN d)).1).se), .int .i64 (((noteOf (putN d)).1).sp)]) (by kernel_rfl) (fun w181 hg182 => ?_) (fun w181 hg182 => ?_)
    ·
     have hz183 := hg182.size
     have hB184 := hb_call hB40 hb152
     have hB185 := hb_new hB184 hg163
     have hB186 := hb_at hB185 hg175 (by omega)
     have hB187 := hb_new hB186 hg182
     have hk188 := hk26.below hb30
     have hk189 := hk188.below hb152
     have hk190 := hk189.kept hg163 (by simp)
     have hk191 := hk190.kept hg175 (by simp; omega)
     have hk192 := hk191.kept hg182 (by simp)
     have hk193 := hk173'.kept hg182 (by simp)
     exact ⟨hB187, hk192, hk193⟩
    have hz194 := hg182.size
    have hB195 := hb_call hB40 hb152
    have hB196 := hb_new hB195 hg163
    have hB197 := hb_at hB196 hg175 (by omega)
    have hB198 := hb_new hB197 hg182
    have hk199 := hk26.below hb30
    have hk200 := hk199.below hb152
    have hk201 := hk200.kept hg163 (by simp)
    have hk202 := hk201.kept hg175 (by simp; omega)
    have hk203 := hk202.kept hg182 (by simp)
    have hk204 := hk173'.kept hg182 (by simp)
    refine dk0 0 (v := .int .i64 ((noteOf (putN d)).2)) h180 rfl rfl ⟨hB198, hk203, hk204⟩ fun a205 h205 => ?_; clear h180
    refine dk0 1 (v := .bool (((noteOf (putN d)).2) != 0)) h205 rfl rfl ⟨hB198, hk203, hk204⟩ fun a206 h206 => ?_; clear h205
    refine dk0 2 (v := .bool (((noteOf (putN d)).2) != 0)) h206 rfl rfl ⟨hB198, hk203, hk204⟩ fun a207 h207 => ?_; clear h206
    have hc208 : (((noteOf (putN d)).2) != 0) = false := by first | (simp; done) | (simp; omega)
    rw [hc208] at h207; clear hc208
    refine dk 3 (v := .agg #[.int .i64 (((noteOf (putN d)).1).k), .int .i64 (((noteOf (putN d)).1).n), .int .u64 (((noteOf (putN d)).1).t), .int .i64 (((noteOf (putN d)).1).ep), mv146, .int .u64 (((noteOf (putN d)).1).fl), lv147, .int .i64 (((noteOf (putN d)).1).ec), .int .i64 (((noteOf (putN d)).1).er), ev148, .int .u64 (((noteOf (putN d)).1).ets), .int .i64 (((noteOf (putN d)).1).pid), .int .u64 (((noteOf (putN d)).1).pat), .int .i64 (((noteOf (putN d)).1).plf), .int .i64 (((noteOf (putN d)).1).sc), .int .i64 (((noteOf (putN d)).1).sr), .int .i64 (((noteOf (putN d)).1).se), .int .i64 (((noteOf (putN d)).1).sp)]) h207 rfl rfl ⟨hB198, hk203, hk204⟩ (fun x hx => (rn_loadN rfl rfl Try.underlying73 rfl (by kernel_rfl) hx.2.2.all)) fun a209 h209 => ?_; clear h207
    refine dk 4 (v := .agg #[.int .i64 d.k, .int .i64 d.n, .int .u64 d.t, .int .i64 d.ep, mv, .int .u64 d.fl, lv, .int .i64 d.ec, .int .i64 d.er, ev, .int .u64 d.ets, .int .i64 d.pid, .int .u64 d.pat, .int .i64 d.plf, .int .i64 d.sc, .int .i64 d.sr, .int .i64 d.se, .int .i64 d.sp]) h209 rfl rfl ⟨hB198, hk203, hk204⟩ (fun x hx => (rn_loadN rfl rfl Try.underlying73 rfl (by kernel_rfl) hx.2.1.all)) fun a210 h210 => ?_; clear h209
    refine d1 5 h210 rfl rfl (op_call (args := #[.agg #[.int .i64 d.k, .int .i64 d.n, .int .u64 d.t, .int .i64 d.ep, mv, .int .u64 d.fl, lv, .int .i64 d.ec, .int .i64 d.er, ev, .int .u64 d.ets, .int .i64 d.pid, .int .u64 d.pat, .int .i64 d.plf, .int .i64 d.sc, .int .i64 d.sr, .int .i64 d.se, .int .i64 d.sp]]) (R := fun res xw => ∃ cm : Value, ∃ cl : Value, ∃ ce : Value, res = .agg #[.int .i64 ((cleanN d).k), .int .i64 ((cleanN d).n), .int .u64 ((cleanN d).t), .int .i64 ((cleanN d).ep), cm, .int .u64 ((cleanN d).fl), cl, .int .i64 ((cleanN d).ec), .int .i64 ((cleanN d).er), ce, .int .u64 ((cleanN d).ets), .int .i64 ((cleanN d).pid), .int .u64 ((cleanN d).pat), .int .i64 ((cleanN d).plf), .int .i64 ((cleanN d).sc), .int .i64 ((cleanN d).sr), .int .i64 ((cleanN d).se), .int .i64 ((cleanN d).sp)] ∧ CleanV d mv lv ev cm cl ce ∧ Below w181.heap.size w181 xw) rfl rfl rfl (by kernel_rfl) (by kernel_rfl) (Try.call48 _ _) (rnClean_any d mv lv ev w181 (hm.below hB198) (hg.below hB198) (he.below hB198) hR) (by rintro e x ⟨cm, cl, ce, rfl, hq216, hb217⟩; exact ⟨_, rfl, ⟨cm, cl, ce, rfl, hq216, hb217⟩⟩)) ?_ ?_; clear h210
    ·
     rintro _ w212 ⟨cm213, cl214, ce215, rfl, hq216, hb217⟩
     have hz218 := hb217.size
     have hB219 := hb_call hB198 hb217
     have hk220 := hk203.below hb217
     have hk221 := hk204.below hb217
     exact ⟨hB219, hk220, hk221⟩
    rintro _ w212 a211 ⟨cm213, cl214, ce215, rfl, hq216, hb217⟩ h211
    have hz218 := hb217.size
    have hB219 := hb_call hB198 hb217
    have hk220 := hk203.below hb217
    have hk221 := hk204.below hb217
    have hr224 := row_kept_at hr178 hg175 (ha167)
    have hr225 := row_kept_new hr224 hg182
    have hr226 := row_kept_new hr225 (below_grown hb217)
    have hr227 := row_kept_at hr177 hg175 (ha168)
    have hr228 := row_kept_new hr227 hg182
    have hr229 := row_kept_new hr228 (below_grown hb217)
    have hr230 := row_kept_at hr176 hg175 (ha169)
    have hr231 := row_kept_new hr230 hg182
    have hr232 := row_kept_new hr231 (below_grown hb217)
    refine d1 6 h211 rfl rfl (op_call (args := #[.agg #[.int .i64 (((noteOf (putN d)).1).k), .int .i64 (((noteOf (putN d)).1).n), .int .u64 (((noteOf (putN d)).1).t), .int .i64 (((noteOf (putN d)).1).ep), mv146, .int .u64 (((noteOf (putN d)).1).fl), lv147, .int .i64 (((noteOf (putN d)).1).ec), .int .i64 (((noteOf (putN d)).1).er), ev148, .int .u64 (((noteOf (putN d)).1).ets), .int .i64 (((noteOf (putN d)).1).pid), .int .u64 (((noteOf (putN d)).1).pat), .int .i64 (((noteOf (putN d)).1).plf), .int .i64 (((noteOf (putN d)).1).sc), .int .i64 (((noteOf (putN d)).1).sr), .int .i64 (((noteOf (putN d)).1).se), .int .i64 (((noteOf (putN d)).1).sp)], .agg #[.int .i64 ((cleanN d).k), .int .i64 ((cleanN d).n), .int .u64 ((cleanN d).t), .int .i64 ((cleanN d).ep), cm213, .int .u64 ((cleanN d).fl), cl214, .int .i64 ((cleanN d).ec), .int .i64 ((cleanN d).er), ce215, .int .u64 ((cleanN d).ets), .int .i64 ((cleanN d).pid), .int .u64 ((cleanN d).pat), .int .i64 ((cleanN d).plf), .int .i64 ((cleanN d).sc), .int .i64 ((cleanN d).sr), .int .i64 ((cleanN d).se), .int .i64 ((cleanN d).sp)]]) (R := fun res xw => res = .bool (sameN ((noteOf (putN d)).1) (cleanN d)) ∧ Below w212.heap.size w212 xw) rfl rfl rfl (by kernel_rfl) (by kernel_rfl) (Try.call45 _ _) (rnSame_any ((noteOf (putN d)).1) mv146 lv147 ev148 (cleanN d) cm213 cl214 ce215 w212 (row_sl hr226 memE_len) (row_sl hr229 (intE_len .i64)) (row_sl hr232 opE_len) (noteOf_R _) (hq216.1 _ (hm.below hB219)) (hq216.2.1 _ (hg.below hB219)) (hq216.2.2 _ (he.below hB219)) (clean_R hR)) (by rintro e x ⟨rfl, hb233⟩; exact ⟨_, rfl, ⟨rfl, hb233⟩⟩)) ?_ ?_; clear h211
    ·
     rintro _ w223 ⟨rfl, hb233⟩
     have hz234 := hb233.size
     have hB235 := hb_call hB219 hb233
     have hk236 := hk220.below hb233
     have hk237 := hk221.below hb233
     exact ⟨hB235, hk236, hk237⟩
    rintro _ w223 a222 ⟨rfl, hb233⟩ h222
    have hz234 := hb233.size
    have hB235 := hb_call hB219 hb233
    have hk236 := hk220.below hb233
    have hk237 := hk221.below hb233
    have hc238 : (sameN ((noteOf (putN d)).1) (cleanN d)) = true := by rw [noteOf_put (by omega) hR]; exact sameN_refl _
    rw [hc238] at h222; clear hc238
    refine dk0 7 (v := .bool false) h222 rfl rfl ⟨hB235, hk236, hk237⟩ fun a239 h239 => ?_; clear h222
    refine dk0 8 (v := .bool false) h239 rfl rfl ⟨hB235, hk236, hk237⟩ fun a240 h240 => ?_; clear h239
    refine dr_done (by kernel_rfl) ?_
    refine co_then ?_
    refine co_false h240 rfl ?_
    refine wp_skip ?_
    refine co_then ?_
    refine co_seq ?_
    refine co_reg ?_
    refine pk0 (v := .string s) h240 rfl fun a241 h241 => ?_; clear h240
    refine pw h241 rfl (op_call (args := #[.string s]) (R := fun res xw => ∃ mv : Value, ∃ lv : Value, ∃ ev : Value, res = .tuple #[.agg #[.int .i64 (((noteOf s).1).k), .int .i64 (((noteOf s).1).n), .int .u64 (((noteOf s).1).t), .int .i64 (((noteOf s).1).ep), mv, .int .u64 (((noteOf s).1).fl), lv, .int .i64 (((noteOf s).1).ec), .int .i64 (((noteOf s).1).er), ev, .int .u64 (((noteOf s).1).ets), .int .i64 (((noteOf s).1).pid), .int .u64 (((noteOf s).1).pat), .int .i64 (((noteOf s).1).plf), .int .i64 (((noteOf s).1).sc), .int .i64 (((noteOf s).1).sr), .int .i64 (((noteOf s).1).se), .int .i64 (((noteOf s).1).sp)], .int .i64 ((noteOf s).2)] ∧ xw.ownsRow w223.heap.size 185 2 mv ((noteOf s).1).ms.length (((noteOf s).1).ms.flatMap memE) ∧ xw.ownsRow w223.heap.size 3 1 lv ((noteOf s).1).lg.length (((noteOf s).1).lg.flatMap (intE .i64)) ∧ xw.ownsRow w223.heap.size 86 3 ev ((noteOf s).1).el.length (((noteOf s).1).el.flatMap opE) ∧ Below w223.heap.size w223 xw) rfl rfl rfl (by kernel_rfl) (by kernel_rfl) (Try.call43 _ _) (nOf_any s ((noteOf s).1) ((noteOf s).2) w223 (by first | omega | (simp; done) | (simp; omega)) rfl) (by rintro e x ⟨mv, lv, ev, rfl, hq247, hq248, hq249, hb250⟩; exact ⟨_, rfl, ⟨mv, lv, ev, rfl, hq247, hq248, hq249, hb250⟩⟩)) ?_; clear h241
    rintro _ w243 a242 ⟨mv244, lv245, ev246, rfl, hq247, hq248, hq249, hb250⟩ h242
    have hz251 := hb250.size
    have hl252 := sl_len (row_sl hq247 memE_len)
    have hl253 := sl_len (row_sl hq248 (intE_len .i64))
    have hl254 := sl_len (row_sl hq249 opE_len)
    refine pk0 (v := .tuple #[.agg #[.int .i64 (((noteOf s).1).k), .int .i64 (((noteOf s).1).n), .int .u64 (((noteOf s).1).t), .int .i64 (((noteOf s).1).ep), mv244, .int .u64 (((noteOf s).1).fl), lv245, .int .i64 (((noteOf s).1).ec), .int .i64 (((noteOf s).1).er), ev246, .int .u64 (((noteOf s).1).ets), .int .i64 (((noteOf s).1).pid), .int .u64 (((noteOf s).1).pat), .int .i64 (((noteOf s).1).plf), .int .i64 (((noteOf s).1).sc), .int .i64 (((noteOf s).1).sr), .int .i64 (((noteOf s).1).se), .int .i64 (((noteOf s).1).sp)], .int .i64 ((noteOf s).2)]) h242 rfl fun a255 h255 => ?_; clear h242
    refine pk0 (v := .agg #[.int .i64 (((noteOf s).1).k), .int .i64 (((noteOf s).1).n), .int .u64 (((noteOf s).1).t), .int .i64 (((noteOf s).1).ep), mv244, .int .u64 (((noteOf s).1).fl), lv245, .int .i64 (((noteOf s).1).ec), .int .i64 (((noteOf s).1).er), ev246, .int .u64 (((noteOf s).1).ets), .int .i64 (((noteOf s).1).pid), .int .u64 (((noteOf s).1).pat), .int .i64 (((noteOf s).1).plf), .int .i64 (((noteOf s).1).sc), .int .i64 (((noteOf s).1).sr), .int .i64 (((noteOf s).1).se), .int .i64 (((noteOf s).1).sp)]) h255 rfl fun a256 h256 => ?_; clear h255
    refine pk0 (v := .int .i64 ((noteOf s).2)) h256 rfl fun a257 h257 => ?_; clear h256
    refine pw h257 rfl (op_new (v := fun N => pt N 0) (T := 73) (cs := #[.int .i64 0, .int .i64 0, .int .u64 0, .int .i64 0, .slice none 0 0, .int .u64 0, .slice none 0 0, .int .i64 0, .int .i64 0, .slice none 0 0, .int .u64 0, .int .i64 0, .int .u64 0, .int .i64 0, .int .i64 0, .int .i64 0, .int .i64 0, .int .i64 0]) (by kernel_rfl) (by kernel_rfl) (by kernel_rfl)) ?_; clear h257
    rintro _ w259 a258 ⟨N260, rfl, hN263, hz264, hk262, hg261⟩ h258
    have hr266 := row_kept_new hr226 (below_grown hb233)
    have hr267 := row_kept_new hr266 (below_grown hb250)
    have ha265 := row_fresh hr267 hN263
    have hr269 := row_kept_new hr229 (below_grown hb233)
    have hr270 := row_kept_new hr269 (below_grown hb250)
    have ha268 := row_fresh hr270 hN263
    have hr272 := row_kept_new hr232 (below_grown hb233)
    have hr273 := row_kept_new hr272 (below_grown hb250)
    have ha271 := row_fresh hr273 hN263
    have ha274 := row_fresh hq247 hN263
    have ha275 := row_fresh hq248 hN263
    have ha276 := row_fresh hq249 hN263
    have hz277 := hg261.size
    try dsimp only at h258
    have hr283 := row_kept_new hq249 hg261
    have hr284 := row_kept_new hq248 hg261
    have hr285 := row_kept_new hq247 hg261
    refine pwD h258 rfl (op_storeN rfl rfl rfl (all_cons rfl (all_cons rfl (all_cons rfl (all_cons rfl (all_cons (row_one hr285) (all_cons rfl (all_cons (row_one hr284) (all_cons rfl (all_cons rfl (all_cons (row_one hr283) (all_cons rfl (all_cons rfl (all_cons rfl (all_cons rfl (all_cons rfl (all_cons rfl (all_cons rfl (all_cons rfl all_nil)))))))))))))))))) (by kernel_rfl) hk262 rfl) ?_; clear h258
    rintro _ w279 a278 ⟨hk280, hz281, hg282⟩ h278
    have hk280' : Blk w279 N260 73 #[.int .i64 (((noteOf s).1).k), .int .i64 (((noteOf s).1).n), .int .u64 (((noteOf s).1).t), .int .i64 (((noteOf s).1).ep), mv244, .int .u64 (((noteOf s).1).fl), lv245, .int .i64 (((noteOf s).1).ec), .int .i64 (((noteOf s).1).er), ev246, .int .u64 (((noteOf s).1).ets), .int .i64 (((noteOf s).1).pid), .int .u64 (((noteOf s).1).pat), .int .i64 (((noteOf s).1).plf), .int .i64 (((noteOf s).1).sc), .int .i64 (((noteOf s).1).sr), .int .i64 (((noteOf s).1).se), .int .i64 (((noteOf s).1).sp)] := hk280; clear hk280
    have hz286 := hg282.size
    refine pk0 (v := .int .i64 ((noteOf s).2)) h278 rfl fun a287 h287 => ?_; clear h278
    refine pl_nil ?_
    refine co_then ?_
    refine co_seq ?_
    refine co_seq ?_
    refine co_reg ?_
    refine pk0 (v := .int .i64 ((noteOf s).2)) h287 rfl fun a288 h288 => ?_; clear h287
    refine pk0 (v := .bool (((noteOf s).2) != 0)) h288 rfl fun a289 h289 => ?_; clear h288
    refine pl_nil ?_
    refine co_then ?_
    have hB291 := hb_call hB235 hb250
    have hB292 := hb_new hB291 hg261
    have hB293 := hb_at hB292 hg282 (by omega)
    have hk294 := hk236.below hb250
    have hk295 := hk294.kept hg261 (by simp)
    have hk296 := hk295.kept hg282 (by simp; omega)
    have hr297 := row_kept_new hr267 hg261
    have hr298 := row_kept_at hr297 hg282 (ha265)
    have hr299 := row_kept_new hr270 hg261
    have hr300 := row_kept_at hr299 hg282 (ha268)
    have hr301 := row_kept_new hr273 hg261
    have hr302 := row_kept_at hr301 hg282 (ha271)
    have hk303 := hk237.below hb250
    have hk304 := hk303.kept hg261 (by simp)
    have hk305 := hk304.kept hg282 (by simp; omega)
    cases hc290 : (((noteOf s).2) != 0)
    ·
     rw [hc290] at h289
     have hp306 : ¬ (((noteOf s).2) ≠ 0) := by first | simpa using hc290 | simpa [and_assoc] using hc290
     clear hc290
     refine co_false h289 rfl ?_
     refine wp_skip ?_
     refine co_then ?_
     refine co_seq ?_
     refine co_reg ?_
     refine pk (v := .agg #[.int .i64 (((noteOf s).1).k), .int .i64 (((noteOf s).1).n), .int .u64 (((noteOf s).1).t), .int .i64 (((noteOf s).1).ep), mv244, .int .u64 (((noteOf s).1).fl), lv245, .int .i64 (((noteOf s).1).ec), .int .i64 (((noteOf s).1).er), ev246, .int .u64 (((noteOf s).1).ets), .int .i64 (((noteOf s).1).pid), .int .u64 (((noteOf s).1).pat), .int .i64 (((noteOf s).1).plf), .int .i64 (((noteOf s).1).sc), .int .i64 (((noteOf s).1).sr), .int .i64 (((noteOf s).1).se), .int .i64 (((noteOf s).1).sp)]) h289 rfl (rn_loadN rfl rfl Try.underlying73 rfl (by kernel_rfl) hk280'.all) fun a307 h307 => ?_; clear h289
     have hr310 := row_kept_at hr285 hg282 (ha274)
     have hr311 := row_kept_at hr284 hg282 (ha275)
     have hr312 := row_kept_at hr283 hg282 (ha276)
     refine pw h307 rfl (op_call (args := #[.agg #[.int .i64 (((noteOf s).1).k), .int .i64 (((noteOf s).1).n), .int .u64 (((noteOf s).1).t), .int .i64 (((noteOf s).1).ep), mv244, .int .u64 (((noteOf s).1).fl), lv245, .int .i64 (((noteOf s).1).ec), .int .i64 (((noteOf s).1).er), ev246, .int .u64 (((noteOf s).1).ets), .int .i64 (((noteOf s).1).pid), .int .u64 (((noteOf s).1).pat), .int .i64 (((noteOf s).1).plf), .int .i64 (((noteOf s).1).sc), .int .i64 (((noteOf s).1).sr), .int .i64 (((noteOf s).1).se), .int .i64 (((noteOf s).1).sp)]]) (R := fun res xw => res = .tuple #[.string (putN ((noteOf s).1)), .int .i64 (chkN ((noteOf s).1))] ∧ Below w279.heap.size w279 xw) rfl rfl rfl (by kernel_rfl) (by kernel_rfl) (Try.call47 _ _) (nPut_any ((noteOf s).1) mv244 lv245 ev246 w279 (row_sl hr310 memE_len) (row_sl hr311 (intE_len .i64)) (row_sl hr312 opE_len) (noteOf_R s)) (by rintro e x ⟨rfl, hb313⟩; exact ⟨_, rfl, ⟨rfl, hb313⟩⟩)) ?_; clear h307
     rintro _ w309 a308 ⟨rfl, hb313⟩ h308
     have hz314 := hb313.size
     refine pk0 (v := .tuple #[.string (putN ((noteOf s).1)), .int .i64 (chkN ((noteOf s).1))]) h308 rfl fun a315 h315 => ?_; clear h308
     refine pk0 (v := .string (putN ((noteOf s).1))) h315 rfl fun a316 h316 => ?_; clear h315
     refine pk0 (v := .int .i64 (chkN ((noteOf s).1))) h316 rfl fun a317 h317 => ?_; clear h316
     refine pk0 (v := .string (putN ((noteOf s).1))) h317 rfl fun a318 h318 => ?_; clear h317
     refine pk0 (v := .int .i64 (chkN ((noteOf s).1))) h318 rfl fun a319 h319 => ?_; clear h318
     refine pl_nil ?_
     refine co_then ?_
     refine co_seq ?_
     refine co_reg ?_
     refine pk0 (v := .string (putN ((noteOf s).1))) h319 rfl fun a320 h320 => ?_; clear h319
     refine pk0 (v := .string s) h320 rfl fun a321 h321 => ?_; clear h320
     refine pk0 (v := .bool ((putN ((noteOf s).1) : ByteArray).toList == s.toList)) h321 rfl fun a322 h322 => ?_; clear h321
     refine pk0 (v := .bool ((putN ((noteOf s).1) : ByteArray).toList == s.toList)) h322 rfl fun a323 h323 => ?_; clear h322
     have hc324 : ((putN ((noteOf s).1) : ByteArray).toList == s.toList) = true := by rw [(noteOf_back (s := s) (by omega)).1]; simp
     rw [hc324] at h323; clear hc324
     refine pk0 (v := .int .i64 (chkN ((noteOf s).1))) h323 rfl fun a325 h325 => ?_; clear h323
     refine pk0 (v := .bool (chkN ((noteOf s).1) == 0)) h325 rfl fun a326 h326 => ?_; clear h325
     refine pk0 (v := .bool (chkN ((noteOf s).1) == 0)) h326 rfl fun a327 h327 => ?_; clear h326
     refine pk0 (v := .bool (chkN ((noteOf s).1) == 0)) h327 rfl fun a328 h328 => ?_; clear h327
     have hc329 : (chkN ((noteOf s).1) == 0) = true := by first | (simp; done) | (simp; omega)
     rw [hc329] at h328; clear hc329
     refine pw h328 rfl (op_call (args := #[]) (R := fun res xw => res = .bool true ∧ Below w309.heap.size w309 xw) rfl rfl rfl (by kernel_rfl) (by kernel_rfl) (Try.call42 _ _) (awake10_any  w309 ) (by rintro e x ⟨rfl, hb332⟩; exact ⟨_, rfl, ⟨rfl, hb332⟩⟩)) ?_; clear h328
     rintro _ w331 a330 ⟨rfl, hb332⟩ h330
     have hz333 := hb332.size
     refine pk0 (v := .bool true) h330 rfl fun a334 h334 => ?_; clear h330
     refine pk0 (v := .bool true) h334 rfl fun a335 h335 => ?_; clear h334
     refine pl_nil ?_
     refine co_then ?_
     refine wp_ret ?_
     refine co_ret1 h335 rfl rfl ?_
     have hB336 := hb_call hB293 hb313
     have hB337 := hb_call hB336 hb332
     exact ⟨rfl, hB337⟩
    ·
     rw [hc290] at h289
     have hp338 : ((noteOf s).2) ≠ 0 := by first | simpa using hc290 | simpa [and_assoc] using hc290
     clear hc290
     refine co_true h289 rfl ?_
     refine co_seq ?_
     refine co_reg ?_
     refine pk (v := .agg #[.int .i64 (((noteOf s).1).k), .int .i64 (((noteOf s).1).n), .int .u64 (((noteOf s).1).t), .int .i64 (((noteOf s).1).ep), mv244, .int .u64 (((noteOf s).1).fl), lv245, .int .i64 (((noteOf s).1).ec), .int .i64 (((noteOf s).1).er), ev246, .int .u64 (((noteOf s).1).ets), .int .i64 (((noteOf s).1).pid), .int .u64 (((noteOf s).1).pat), .int .i64 (((noteOf s).1).plf), .int .i64 (((noteOf s).1).sc), .int .i64 (((noteOf s).1).sr), .int .i64 (((noteOf s).1).se), .int .i64 (((noteOf s).1).sp)]) h289 rfl (rn_loadN rfl rfl Try.underlying73 rfl (by kernel_rfl) hk280'.all) fun a339 h339 => ?_; clear h289
     refine pk0 (v := .agg #[.int .i64 0, .int .i64 0, .int .u64 0, .int .i64 0, .slice none 0 0, .int .u64 0, .slice none 0 0, .int .i64 0, .int .i64 0, .slice none 0 0, .int .u64 0, .int .i64 0, .int .u64 0, .int .i64 0, .int .i64 0, .int .i64 0, .int .i64 0, .int .i64 0]) h339 rfl fun a340 h340 => ?_; clear h339
     have hr343 := row_kept_at hr285 hg282 (ha274)
     have hr344 := row_kept_at hr284 hg282 (ha275)
     have hr345 := row_kept_at hr283 hg282 (ha276)
     refine pw h340 rfl (op_call (args := #[.agg #[.int .i64 (((noteOf s).1).k), .int .i64 (((noteOf s).1).n), .int .u64 (((noteOf s).1).t), .int .i64 (((noteOf s).1).ep), mv244, .int .u64 (((noteOf s).1).fl), lv245, .int .i64 (((noteOf s).1).ec), .int .i64 (((noteOf s).1).er), ev246, .int .u64 (((noteOf s).1).ets), .int .i64 (((noteOf s).1).pid), .int .u64 (((noteOf s).1).pat), .int .i64 (((noteOf s).1).plf), .int .i64 (((noteOf s).1).sc), .int .i64 (((noteOf s).1).sr), .int .i64 (((noteOf s).1).se), .int .i64 (((noteOf s).1).sp)], .agg #[.int .i64 0, .int .i64 0, .int .u64 0, .int .i64 0, .slice none 0 0, .int .u64 0, .slice none 0 0, .int .i64 0, .int .i64 0, .slice none 0 0, .int .u64 0, .int .i64 0, .int .u64 0, .int .i64 0, .int .i64 0, .int .i64 0, .int .i64 0, .int .i64 0]]) (R := fun res xw => res = .bool (sameN ((noteOf s).1) (NoteD.mk 0 0 0 0 ([]) 0 ([]) 0 0 ([]) 0 0 0 0 0 0 0 0)) ∧ Below w279.heap.size w279 xw) rfl rfl rfl (by kernel_rfl) (by kernel_rfl) (Try.call45 _ _) (rnSame_any ((noteOf s).1) mv244 lv245 ev246 (NoteD.mk 0 0 0 0 ([]) 0 ([]) 0 0 ([]) 0 0 0 0 0 0 0 0) (.slice none 0 0) (.slice none 0 0) (.slice none 0 0) w279 (row_sl hr343 memE_len) (row_sl hr344 (intE_len .i64)) (row_sl hr345 opE_len) (noteOf_R _) (sl_nil _) (sl_nil _) (sl_nil _) (zN_R 0)) (by rintro e x ⟨rfl, hb346⟩; exact ⟨_, rfl, ⟨rfl, hb346⟩⟩)) ?_; clear h340
     rintro _ w342 a341 ⟨rfl, hb346⟩ h341
     have hz347 := hb346.size
     refine pk0 (v := .bool (sameN ((noteOf s).1) (NoteD.mk 0 0 0 0 ([]) 0 ([]) 0 0 ([]) 0 0 0 0 0 0 0 0))) h341 rfl fun a348 h348 => ?_; clear h341
     have hc349 : (sameN ((noteOf s).1) (NoteD.mk 0 0 0 0 ([]) 0 ([]) 0 0 ([]) 0 0 0 0 0 0 0 0)) = true := by rw [noteOf_zero (by assumption)]; exact sameN_refl _
     rw [hc349] at h348; clear hc349
     refine pw h348 rfl (op_call (args := #[]) (R := fun res xw => res = .bool true ∧ Below w342.heap.size w342 xw) rfl rfl rfl (by kernel_rfl) (by kernel_rfl) (Try.call42 _ _) (awake10_any  w342 ) (by rintro e x ⟨rfl, hb352⟩; exact ⟨_, rfl, ⟨rfl, hb352⟩⟩)) ?_; clear h348
     rintro _ w351 a350 ⟨rfl, hb352⟩ h350
     have hz353 := hb352.size
     refine pk0 (v := .bool true) h350 rfl fun a354 h354 => ?_; clear h350
     refine pk0 (v := .bool true) h354 rfl fun a355 h355 => ?_; clear h354
     refine pl_nil ?_
     refine co_then ?_
     refine wp_ret ?_
     refine co_thenR ?_
     refine co_ret1 h355 rfl rfl ?_
     have hB356 := hb_call hB293 hb346
     have hB357 := hb_call hB356 hb352
     exact ⟨rfl, hB357⟩
  ·
   rw [hc24] at h23
   have hp358 : ((s.size : Nat) : Int) > 3000 := of_decide_eq_true hc24
   clear hc24
   refine co_true h23 rfl ?_
   refine co_seq ?_
   refine co_reg ?_
   refine pw h23 rfl (op_call (args := #[]) (R := fun res xw => res = .bool true ∧ Below w12.heap.size w12 xw) rfl rfl rfl (by kernel_rfl) (by kernel_rfl) (Try.call42 _ _) (awake10_any  w12 ) (by rintro e x ⟨rfl, hb361⟩; exact ⟨_, rfl, ⟨rfl, hb361⟩⟩)) ?_; clear h23
   rintro _ w360 a359 ⟨rfl, hb361⟩ h359
   have hz362 := hb361.size
   refine pk0 (v := .bool true) h359 rfl fun a363 h363 => ?_; clear h359
   refine pl_nil ?_
   refine co_then ?_
   refine wp_ret ?_
   refine co_thenR ?_
   refine co_ret1 h363 rfl rfl ?_
   have hB364 := hb_call hB19 hb361
   exact ⟨rfl, hB364⟩
 ·
  rw [hc18] at h17
  refine psk h17 rfl fun a365 h365 => ?_; clear h17
  refine psk h365 rfl fun a366 h366 => ?_; clear h365
  refine psk h366 rfl fun a367 h367 => ?_; clear h366
  refine pk0 (v := .bool true) h367 rfl fun a368 h368 => ?_; clear h367
  refine pl_nil ?_
  refine co_then ?_
  refine co_true h368 rfl ?_
  refine co_seq ?_
  refine co_reg ?_
  refine pw h368 rfl (op_call (args := #[]) (R := fun res xw => res = .bool true ∧ Below w12.heap.size w12 xw) rfl rfl rfl (by kernel_rfl) (by kernel_rfl) (Try.call42 _ _) (awake10_any  w12 ) (by rintro e x ⟨rfl, hb371⟩; exact ⟨_, rfl, ⟨rfl, hb371⟩⟩)) ?_; clear h368
  rintro _ w370 a369 ⟨rfl, hb371⟩ h369
  have hz372 := hb371.size
  refine pk0 (v := .bool true) h369 rfl fun a373 h373 => ?_; clear h369
  refine pl_nil ?_
  refine co_then ?_
  refine wp_ret ?_
  refine co_thenR ?_
  refine co_ret1 h373 rfl rfl ?_
  have hB374 := hb_call hB19 hb371
  exact ⟨rfl, hB374⟩
end Go.Proofs.Yteioaaegooebpaa

/- Notes that came in by value, opened. Conditions: none. -/
namespace Go.Proofs.Yteioaaegooebpaa
open Go.RowKit Go.ChangeShapes Go.WideShapes Go.Deep
structure NoteX where
  d : NoteD
  mv : Value
  lv : Value
  ev : Value
def noteE (x : NoteX) : List Value := [.int .i64 x.d.k, .int .i64 x.d.n, .int .u64 x.d.t, .int .i64 x.d.ep, x.mv, .int .u64 x.d.fl, x.lv, .int .i64 x.d.ec, .int .i64 x.d.er, x.ev, .int .u64 x.d.ets, .int .i64 x.d.pid, .int .u64 x.d.pat, .int .i64 x.d.plf, .int .i64 x.d.sc, .int .i64 x.d.sr, .int .i64 x.d.se, .int .i64 x.d.sp]
def noteV (x : NoteX) : Value := .agg #[.int .i64 x.d.k, .int .i64 x.d.n, .int .u64 x.d.t, .int .i64 x.d.ep, x.mv, .int .u64 x.d.fl, x.lv, .int .i64 x.d.ec, .int .i64 x.d.er, x.ev, .int .u64 x.d.ets, .int .i64 x.d.pid, .int .u64 x.d.pat, .int .i64 x.d.plf, .int .i64 x.d.sc, .int .i64 x.d.sr, .int .i64 x.d.se, .int .i64 x.d.sp]
structure NoteOk (w : World) (x : NoteX) : Prop where
  hm : SliceOf memE 2 w x.mv x.d.ms
  hg : SliceOf (intE .i64) 1 w x.lv x.d.lg
  he : SliceOf opE 3 w x.ev x.d.el
  hR : NoteR x.d
section
variable {H : Type} {enc : TypeId × Value → H} {w : World} {base : Nat} {spare : Nat → Bool} {held : Bool}
theorem open_i64s {fuel : Nat} {cs : List Value} {x : DataW H × List MemPlace} (h : DataW.trod enc Try.prog w base spare held fuel 67 cs = some x) :
    ∃ (l : List Int) (v : Value), cs = [v] ∧ SliceOf (intE .i64) 1 w v l ∧ ∀ n ∈ l, (Lit.int .i64 n).wf = true :=
  open_rows (intE .i64) 1 _ Try.underlying67 (by kernel_rfl) (by omega) (fun n cs x h => by
    obtain ⟨a, e, _, hw⟩ := DataW.trod_int Try.underlying3 h
    exact ⟨a, e, hw⟩) h
set_option maxRecDepth 10000 in
theorem elem_note (n : Nat) (cs : List Value) (x : DataW H × List MemPlace) (h : DataW.trod enc Try.prog w base spare held n 73 cs = some x) : ∃ y : NoteX, cs = noteE y ∧ NoteOk w y := by
  obtain ⟨xs, m, _, _, hl, hxl, hf⟩ := DataW.trod_struct Try.underlying73 h
  have hl18 : cs.length = 18 := hl
  have hx8 : xs.length = 8 := hxl
  clear hl hxl
  match cs, hl18, xs, hx8 with
  | [c0, c1, c2, c3, c4, c5, c6, c7, c8, c9, c10, c11, c12, c13, c14, c15, c16, c17], _, [x0, x1, x2, x3, x4, x5, x6, x7], _ =>
    have h0 : DataW.trod enc Try.prog w base spare held m 3 [c0] = some x0 := hf 0 _ rfl
    have h1 : DataW.trod enc Try.prog w base spare held m 3 [c1] = some x1 := hf 1 _ rfl
    have h2 : DataW.trod enc Try.prog w base spare held m 32 [c2] = some x2 := hf 2 _ rfl
    have h3 : DataW.trod enc Try.prog w base spare held m 56 [c3, c4, c5] = some x3 := hf 3 _ rfl
    have h4 : DataW.trod enc Try.prog w base spare held m 67 [c6] = some x4 := hf 4 _ rfl
    have h5 : DataW.trod enc Try.prog w base spare held m 34 [c7, c8, c9, c10] = some x5 := hf 5 _ rfl
    have h6 : DataW.trod enc Try.prog w base spare held m 69 [c11, c12, c13] = some x6 := hf 6 _ rfl
    have h7 : DataW.trod enc Try.prog w base spare held m 71 [c14, c15, c16, c17] = some x7 := hf 7 _ rfl
    clear hf h
    obtain ⟨k, e0, _, _⟩ := DataW.trod_int Try.underlying3 h0
    obtain ⟨nn, e1, _, _⟩ := DataW.trod_int Try.underlying3 h1
    obtain ⟨t, e2, _, w2⟩ := DataW.trod_int Try.underlying32 h2
    obtain ⟨c, e3, hc⟩ := elem_conf _ _ _ h3
    obtain ⟨lg, lv, e4, hg, _⟩ := open_i64s h4
    obtain ⟨ys, m5, _, _, _, hyl, hf5⟩ := DataW.trod_struct Try.underlying34 h5
    have hy2 : ys.length = 2 := hyl
    clear hyl h5
    match ys, hy2 with
    | [y0, y1], _ =>
      have b0 : DataW.trod enc Try.prog w base spare held m5 31 [c7, c8, c9] = some y0 := hf5 0 _ rfl
      have b1 : DataW.trod enc Try.prog w base spare held m5 32 [c10] = some y1 := hf5 1 _ rfl
      clear hf5
      obtain ⟨ets, e10, _, w10⟩ := DataW.trod_int Try.underlying32 b1
      obtain ⟨_, m6, hf6⟩ := trod_fields Try.underlying31 (by kernel_rfl) (by kernel_rfl) b0
      obtain ⟨_, z0, f0, g0⟩ := hf6 0 _ rfl
      obtain ⟨_, z1, f1, g1⟩ := hf6 1 _ rfl
      obtain ⟨_, z2, f2, g2⟩ := hf6 2 _ rfl
      cases f0; cases f1; cases f2
      obtain ⟨ec, e7, _, _⟩ := DataW.trod_int Try.underlying3 g0
      obtain ⟨er, e8, _, _⟩ := DataW.trod_int Try.underlying3 g1
      obtain ⟨el, ev, e9, he, _⟩ := open_ops g2
      obtain ⟨_, m7, hf7⟩ := trod_fields Try.underlying69 (by kernel_rfl) (by kernel_rfl) h6
      obtain ⟨_, z3, f3, g3⟩ := hf7 0 _ rfl
      obtain ⟨_, z4, f4, g4⟩ := hf7 1 _ rfl
      obtain ⟨_, z5, f5, g5⟩ := hf7 2 _ rfl
      cases f3; cases f4; cases f5
      obtain ⟨pid, e11, _, _⟩ := DataW.trod_int Try.underlying3 g3
      obtain ⟨pat, e12, _, w12⟩ := DataW.trod_int Try.underlying32 g4
      obtain ⟨plf, e13, _, _⟩ := DataW.trod_int Try.underlying3 g5
      obtain ⟨_, m8, hf8⟩ := trod_fields Try.underlying71 (by kernel_rfl) (by kernel_rfl) h7
      obtain ⟨_, z6, f6, g6⟩ := hf8 0 _ rfl
      obtain ⟨_, z7, f7, g7⟩ := hf8 1 _ rfl
      obtain ⟨_, z8, f8, g8⟩ := hf8 2 _ rfl
      obtain ⟨_, z9, f9, g9⟩ := hf8 3 _ rfl
      cases f6; cases f7; cases f8; cases f9
      obtain ⟨sc, e14, _, _⟩ := DataW.trod_int Try.underlying3 g6
      obtain ⟨sr, e15, _, _⟩ := DataW.trod_int Try.underlying3 g7
      obtain ⟨se, e16, _, _⟩ := DataW.trod_int Try.underlying35 g8
      obtain ⟨sp, e17, _, _⟩ := DataW.trod_int Try.underlying3 g9
      clear h0 h1 h2 h3 h4 h6 h7 hf6 hf7 hf8 g0 g1 g2 g3 g4 g5 g6 g7 g8 g9 b0 b1
      simp only [confE, List.cons.injEq, and_true] at e0 e1 e2 e3 e4 e7 e8 e9 e10 e11 e12 e13 e14 e15 e16 e17
      obtain ⟨rfl, rfl, rfl⟩ := e3
      subst e0 e1 e2 e4 e7 e8 e9 e10 e11 e12 e13 e14 e15 e16 e17
      exact ⟨⟨⟨k, nn, t, c.ep, c.ms, c.fl, lg, ec, er, el, ets, pid, pat, plf, sc, sr, se, sp⟩, c.mv, _, _⟩, rfl, ⟨hc.ms, hg, he, ⟨hc.each, ⟨hc.e0, hc.e1⟩, ⟨hc.f0, hc.f1⟩, wf_u64 w2, wf_u64 w10, wf_u64 w12⟩⟩⟩
end
set_option maxRecDepth 100000 in
theorem open_note {H : Type} {enc : TypeId × Value → H} {w W0 : World} {base b0 : Nat} {spare : Nat → Bool} {held : Bool} {r : Reach} {v : Value} {n : Nat} {x : DataW H × List MemPlace}
    (hv : Value.okWide Try.prog w r b0 73 v) (h : DataW.trod enc Try.prog W0 base spare held n 73 v.cells.toList = some x) :
    ∃ y : NoteX, v = noteV y ∧ NoteOk W0 y := by
  obtain ⟨cs, rfl, hsz⟩ := okWide_struct Try.underlying73 hv
  obtain ⟨y, hy, hok⟩ := elem_note _ _ _ h
  refine ⟨y, ?_, hok⟩
  obtain ⟨cl⟩ := cs
  have hy' : cl = noteE y := hy
  subst hy'; rfl
end Go.Proofs.Yteioaaegooebpaa

/- catenalaw10: NoteBack over a note that came in. Conditions: none. -/
namespace Go.Proofs.Yteioaaegooebpaa
open Go.RowKit
theorem noteBack_x (a : NoteX) (s : ByteArray) (w : World) (ha : NoteOk w a) (hs : s.size ≤ 140737488351232) : Calls Try.prog 10 #[noteV a, .string s] w fun e w' => e = .returned (.bool true) ∧ Below w.heap.size w w' :=
  noteBack_law a.d a.mv a.lv a.ev s w ha.hm ha.hg ha.he ha.hR hs
end Go.Proofs.Yteioaaegooebpaa
