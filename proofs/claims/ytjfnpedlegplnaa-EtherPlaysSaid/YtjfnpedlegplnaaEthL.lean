/- Both ethers: a call of either, told by what it does to the packets. Conditions: at most 400 packets. -/
import Derived.Test.YtjfnpedlegplnaaEthZa
import Derived.Test.YtjfnpedlegplnaaPexD
namespace Go.Proofs.Ytjfnpedlegplnaa
open Go.RowKit Go.PlainAid
theorem actE_len (y : ActT) : (actE y).length = 5 := rfl
theorem actE_one (y : ActT) : ∀ u ∈ actE y, u.oneCell' = true := by intro u hu; simp [actE] at hu; rcases hu with rfl | rfl | rfl | rfl | rfl <;> rfl
theorem pktE_len' (y : PktT) : (pktE y).length = 3 := rfl
def takeR (j : Int) (l : List PktT) : PktT × Int × List PktT := match l[j.toNat % l.length]? with
  | some p => (p, 0, l.take (j.toNat % l.length) ++ l.drop (j.toNat % l.length + 1))
  | none => ((0, 0, ⟨#[]⟩), 7, [])
def dropR (j : Int) (l : List PktT) (n : Int) : Int × List PktT × Int := if l.length = 0 then (7, l, n) else (0, l.take (j.toNat % l.length) ++ l.drop (j.toNat % l.length + 1), lostN n)
def dblR (j : Int) (l : List PktT) : Int × List PktT := if l.length = 0 then (7, l) else if 400 ≤ l.length then (6, l) else (0, l ++ l[j.toNat % l.length]?.toList)
theorem cut_len (l : List PktT) (i : Nat) : (l.take i ++ l.drop (i + 1)).length ≤ l.length := by simp; omega
theorem send_bd' {p : PktT} {l k : List PktT} {n m r : Int} (h : sendR p l n = (r, k, m)) (hl : l.length ≤ 400) (h0 : 0 ≤ n) (h1 : n ≤ 1073741824) : k.length ≤ 400 ∧ 0 ≤ m ∧ m ≤ 1073741824 := by
  have := send_bd (p := p) hl h0 h1; rw [h] at this; exact this
theorem take_bd {j r : Int} {l k : List PktT} {p : PktT} (h : takeR j l = (p, r, k)) (hl : l.length ≤ 400) : k.length ≤ 400 := by
  unfold takeR at h
  split at h
  · cases h; exact Nat.le_trans (cut_len _ _) hl
  · cases h; simp
theorem drop_bd {j r : Int} {l k : List PktT} {n m : Int} (h : dropR j l n = (r, k, m)) (hl : l.length ≤ 400) (h0 : 0 ≤ n) (h1 : n ≤ 1073741824) : k.length ≤ 400 ∧ 0 ≤ m ∧ m ≤ 1073741824 := by
  unfold dropR at h
  split at h
  · cases h; exact ⟨hl, h0, h1⟩
  · cases h; exact ⟨Nat.le_trans (cut_len _ _) hl, lostN_bd h0⟩
theorem dbl_bd {j r : Int} {l k : List PktT} (h : dblR j l = (r, k)) (hl : l.length ≤ 400) : k.length ≤ 400 := by
  unfold dblR at h
  split at h
  · cases h; exact hl
  split at h
  · cases h; exact hl
  · cases h
    have : (l[j.toNat % l.length]?.toList).length ≤ 1 := by cases l[j.toNat % l.length]? <;> simp
    rw [List.length_append]; omega
theorem EthPost.sz {b : Nat} {v : Value} {w w' : World} {l : List PktT} {n : Int} (h : EthPost b v w l n w') : w.heap.size ≤ w'.heap.size := by obtain ⟨_, _, hb, _⟩ := h; exact hb.size
theorem EthPost.same {b : Nat} {v : Value} {w : World} {l : List PktT} {n : Int} (h : Eth w b v l n) : EthPost b v w l n w := ⟨v, h, But.refl _ w, fun _ hg => .inl hg⟩
theorem RPost.but {b : Nat} {v : Value} {w w' : World} {l : List PktT} {n : Int} (h : RPost b v w l n w') : But (fun k => k = b) w w' := by obtain ⟨_, _, hb, _⟩ := h; exact hb
theorem blkBut {S : Nat → Prop} {w x : World} {N : Nat} {T : TypeId} {cs : Array Value} (h : Blk w N T cs) (hb : But S w x) (hn : ¬ S N) : Blk x N T cs := by
  unfold Blk; rw [hb.block N h.lt hn]; exact h
section
variable {B : Nat} {w0 w : World} {b1 b2 : Nat} {v1 v2 : Value} {l k l2 : List PktT} {n m n2 r j : Int} {p : PktT}
theorem Two.own (h : Two B w0 w b1 v1 l n b2 v2 l2 n2) : (∀ g, v1.ownBlock = some g → g < w.heap.size) ∧ (∀ g, v2.ownBlock = some g → g < w.heap.size) ∧ b1 < w.heap.size ∧ b2 < w.heap.size ∧ B ≤ b1 ∧ B ≤ b2 ∧ b1 ≠ b2 :=
  ⟨fun g hg => (h.e.row.lt g hg).2, fun g hg => (h.r.row.lt g hg).2, h.e.lt, h.r.lt, h.h1, h.h2, h.ne⟩
theorem Two.at' {x : World} {N : Nat} (h : Two B w0 w b1 v1 l n b2 v2 l2 n2) (hg : w.grownBy x (some N)) (hN : B ≤ N) (k1 : v1.ownBlock ≠ some N) (k2 : v2.ownBlock ≠ some N) (k3 : N ≠ b1) (k4 : N ≠ b2) : Two B w0 x b1 v1 l n b2 v2 l2 n2 :=
  ⟨⟨(Blk.kept (show Blk w b1 _ _ from h.e.blk) hg (by simp; omega) : Blk x b1 _ _), row_kept_at h.e.row hg k1⟩, ⟨(Blk.kept (show Blk w b2 _ _ from h.r.blk) hg (by simp; omega) : Blk x b2 _ _), row_kept_at h.r.row hg k2⟩, h.ne, h.a1, h.a2, h.a3, h.h1, h.h2, h.bel.grown hg h.sz (fun k e => by cases e; exact hN), Nat.le_trans h.sz hg.size⟩
theorem two_make (h1 : Eth w b1 (.slice none 0 0) [] 0) (h2 : Blk w b2 108 #[.slice none 0 0, .int .i64 0]) (hne : b1 ≠ b2) (hB1 : B ≤ b1) (hB2 : B ≤ b2) (hb : Below B w0 w) (hs : B ≤ w.heap.size) : Two B w0 w b1 (.slice none 0 0) [] 0 b2 (.slice none 0 0) [] 0 :=
  ⟨h1, ⟨h2, World.ownsRow_nil _ _ _ _⟩, hne, by simp [Value.ownBlock], by simp [Value.ownBlock], fun g hg => by simp [Value.ownBlock] at hg, hB1, hB2, hb, hs⟩
theorem two_esend (h : Two B w0 w b1 v1 l n b2 v2 l2 n2) (hq : sendR p l n = (r, k, m)) (hl : l.length ≤ 400) (h0 : 0 ≤ n) (h1 : n ≤ 1073741824) :
    Calls Try.prog 60 #[.pointer (some ⟨b1, 0, none⟩), pktV p] w fun e w' => e = .returned (.int .i64 r) ∧ ∃ v', Two B w0 w' b1 v' k m b2 v2 l2 n2 ∧ w.heap.size ≤ w'.heap.size := by
  refine (send_made w b1 v1 l n p h.e (by omega) h0 h1).mono fun e w' ⟨he, hp⟩ => ?_
  rw [hq] at he hp
  obtain ⟨v, hv⟩ := h.stepN hp
  exact ⟨he, v, hv, hp.sz⟩
theorem two_rsend (h : Two B w0 w b1 v1 l2 n2 b2 v2 l n) (hq : sendR p l n = (r, k, m)) (hl : l.length ≤ 400) (h0 : 0 ≤ n) (h1 : n ≤ 1073741824) :
    Calls Try.prog 61 #[.pointer (some ⟨b2, 0, none⟩), pktV p] w fun e w' => e = .returned (.int .i64 r) ∧ ∃ v', Two B w0 w' b1 v1 l2 n2 b2 v' k m ∧ But (fun i => i = b2) w w' := by
  refine (rsend_any w b2 v2 l n p h.r h0 h1).mono fun e w' ⟨he, hp⟩ => ?_
  rw [hq] at he hp
  obtain ⟨v, hv⟩ := h.stepX hp
  exact ⟨he, v, hv, hp.but⟩
theorem two_etake (h : Two B w0 w b1 v1 l n b2 v2 l2 n2) (hq : takeR j l = (p, r, k)) (hl : l.length ≤ 400) (hk : (Lit.int .i64 j).wf = true) :
    Calls Try.prog 62 #[.pointer (some ⟨b1, 0, none⟩), .int .i64 j] w fun e w' => e = .returned (.tuple #[pktV p, .int .i64 r]) ∧ ∃ v', Two B w0 w' b1 v' k n b2 v2 l2 n2 ∧ w.heap.size ≤ w'.heap.size := by
  have key : Calls Try.prog 62 #[.pointer (some ⟨b1, 0, none⟩), .int .i64 j] w fun e w' => e = .returned (.tuple #[pktV p, .int .i64 r]) ∧ EthPost b1 v1 w k n w' := by
    by_cases h0 : 0 < l.length
    · have hi := Nat.mod_lt j.toNat h0
      have hg : l[j.toNat % l.length]? = some l[j.toNat % l.length] := List.getElem?_eq_getElem hi
      unfold takeR at hq; rw [hg] at hq; cases hq
      exact etake_made w b1 v1 l n j (j.toNat % l.length) _ _ _ h.e (by omega) hk h0 rfl hi rfl
    · obtain rfl : l = [] := List.eq_nil_of_length_eq_zero (by omega)
      unfold takeR at hq; simp only [List.getElem?_nil] at hq; cases hq
      exact etake_none w b1 v1 n j h.e
  refine key.mono fun e w' ⟨he, hp⟩ => ?_
  obtain ⟨v, hv⟩ := h.stepN hp
  exact ⟨he, v, hv, hp.sz⟩
theorem two_rtake (h : Two B w0 w b1 v1 l2 n2 b2 v2 l n) (hq : takeR j l = (p, r, k)) (hl : l.length ≤ 400) (hk : (Lit.int .i64 j).wf = true) :
    Calls Try.prog 63 #[.pointer (some ⟨b2, 0, none⟩), .int .i64 j] w fun e w' => e = .returned (.tuple #[pktV p, .int .i64 r]) ∧ ∃ v', Two B w0 w' b1 v1 l2 n2 b2 v' k n ∧ But (fun i => i = b2) w w' := by
  have key : Calls Try.prog 63 #[.pointer (some ⟨b2, 0, none⟩), .int .i64 j] w fun e w' => e = .returned (.tuple #[pktV p, .int .i64 r]) ∧ RPost b2 v2 w k n w' := by
    by_cases h0 : 0 < l.length
    · have hi := Nat.mod_lt j.toNat h0
      have hg : l[j.toNat % l.length]? = some l[j.toNat % l.length] := List.getElem?_eq_getElem hi
      unfold takeR at hq; rw [hg] at hq; cases hq
      exact rtake_made w b2 v2 l n j (j.toNat % l.length) _ _ _ h.r (by omega) hk h0 rfl hi rfl
    · obtain rfl : l = [] := List.eq_nil_of_length_eq_zero (by omega)
      unfold takeR at hq; simp only [List.getElem?_nil] at hq; cases hq
      exact rtake_none w b2 v2 n j h.r
  refine key.mono fun e w' ⟨he, hp⟩ => ?_
  obtain ⟨v, hv⟩ := h.stepX hp
  exact ⟨he, v, hv, hp.but⟩
theorem two_edrop (h : Two B w0 w b1 v1 l n b2 v2 l2 n2) (hq : dropR j l n = (r, k, m)) (hl : l.length ≤ 400) (hk : (Lit.int .i64 j).wf = true) (h0 : 0 ≤ n) (h1 : n ≤ 1073741824) :
    Calls Try.prog 64 #[.pointer (some ⟨b1, 0, none⟩), .int .i64 j] w fun e w' => e = .returned (.int .i64 r) ∧ ∃ v', Two B w0 w' b1 v' k m b2 v2 l2 n2 ∧ w.heap.size ≤ w'.heap.size := by
  have key : Calls Try.prog 64 #[.pointer (some ⟨b1, 0, none⟩), .int .i64 j] w fun e w' => e = .returned (.int .i64 r) ∧ EthPost b1 v1 w k m w' := by
    unfold dropR at hq
    split at hq
    · cases hq
      obtain rfl : l = [] := List.eq_nil_of_length_eq_zero (by omega)
      exact edrop_none w b1 v1 n j h.e
    · cases hq
      have hp0 : 0 < l.length := by omega
      exact edrop_made w b1 v1 l n j (j.toNat % l.length) _ _ _ h.e (by omega) hk hp0 rfl (Nat.mod_lt _ hp0) rfl h0 h1
  refine key.mono fun e w' ⟨he, hp⟩ => ?_
  obtain ⟨v, hv⟩ := h.stepN hp
  exact ⟨he, v, hv, hp.sz⟩
theorem two_rdrop (h : Two B w0 w b1 v1 l2 n2 b2 v2 l n) (hq : dropR j l n = (r, k, m)) (hl : l.length ≤ 400) (hk : (Lit.int .i64 j).wf = true) (h0 : 0 ≤ n) (h1 : n ≤ 1073741824) :
    Calls Try.prog 65 #[.pointer (some ⟨b2, 0, none⟩), .int .i64 j] w fun e w' => e = .returned (.int .i64 r) ∧ ∃ v', Two B w0 w' b1 v1 l2 n2 b2 v' k m ∧ But (fun i => i = b2) w w' := by
  have key : Calls Try.prog 65 #[.pointer (some ⟨b2, 0, none⟩), .int .i64 j] w fun e w' => e = .returned (.int .i64 r) ∧ RPost b2 v2 w k m w' := by
    unfold dropR at hq
    split at hq
    · cases hq
      obtain rfl : l = [] := List.eq_nil_of_length_eq_zero (by omega)
      exact rdrop_none w b2 v2 n j h.r
    · cases hq
      have hp0 : 0 < l.length := by omega
      exact rdrop_made w b2 v2 l n j (j.toNat % l.length) _ _ _ h.r (by omega) hk hp0 rfl (Nat.mod_lt _ hp0) rfl h0 h1
  refine key.mono fun e w' ⟨he, hp⟩ => ?_
  obtain ⟨v, hv⟩ := h.stepX hp
  exact ⟨he, v, hv, hp.but⟩
theorem two_edouble (h : Two B w0 w b1 v1 l n b2 v2 l2 n2) (hq : dblR j l = (r, k)) (hk : (Lit.int .i64 j).wf = true) :
    Calls Try.prog 66 #[.pointer (some ⟨b1, 0, none⟩), .int .i64 j] w fun e w' => e = .returned (.int .i64 r) ∧ ∃ v', Two B w0 w' b1 v' k n b2 v2 l2 n2 ∧ w.heap.size ≤ w'.heap.size := by
  have key : Calls Try.prog 66 #[.pointer (some ⟨b1, 0, none⟩), .int .i64 j] w fun e w' => e = .returned (.int .i64 r) ∧ EthPost b1 v1 w k n w' := by
    unfold dblR at hq
    split at hq
    · cases hq
      obtain rfl : l = [] := List.eq_nil_of_length_eq_zero (by omega)
      exact (edouble_none w b1 v1 n j h.e).mono fun e w' ⟨he, hw⟩ => by subst hw; exact ⟨he, .same h.e⟩
    split at hq
    · cases hq
      exact (edouble_full w b1 v1 l n j h.e (by assumption)).mono fun e w' ⟨he, hw⟩ => by subst hw; exact ⟨he, .same h.e⟩
    · have hp0 : 0 < l.length := by omega
      have hi := Nat.mod_lt j.toNat hp0
      rw [List.getElem?_eq_getElem hi] at hq
      cases hq
      exact edouble_room w b1 v1 l n j (j.toNat % l.length) _ _ _ h.e hk hp0 (by assumption) rfl hi rfl
  refine key.mono fun e w' ⟨he, hp⟩ => ?_
  obtain ⟨v, hv⟩ := h.stepN hp
  exact ⟨he, v, hv, hp.sz⟩
theorem two_rdouble (h : Two B w0 w b1 v1 l2 n2 b2 v2 l n) (hq : dblR j l = (r, k)) (hk : (Lit.int .i64 j).wf = true) :
    Calls Try.prog 67 #[.pointer (some ⟨b2, 0, none⟩), .int .i64 j] w fun e w' => e = .returned (.int .i64 r) ∧ ∃ v', Two B w0 w' b1 v1 l2 n2 b2 v' k n ∧ But (fun i => i = b2) w w' := by
  have key : Calls Try.prog 67 #[.pointer (some ⟨b2, 0, none⟩), .int .i64 j] w fun e w' => e = .returned (.int .i64 r) ∧ RPost b2 v2 w k n w' := by
    unfold dblR at hq
    split at hq
    · cases hq
      obtain rfl : l = [] := List.eq_nil_of_length_eq_zero (by omega)
      exact (rdouble_none w b2 v2 n j h.r).mono fun e w' ⟨he, hw⟩ => by subst hw; exact ⟨he, .kept h.r (Below.refl _ _)⟩
    split at hq
    · cases hq
      exact (rdouble_full w b2 v2 l n j h.r (by assumption)).mono fun e w' ⟨he, hw⟩ => by subst hw; exact ⟨he, .kept h.r (Below.refl _ _)⟩
    · have hp0 : 0 < l.length := by omega
      have hi := Nat.mod_lt j.toNat hp0
      rw [List.getElem?_eq_getElem hi] at hq
      cases hq
      exact rdouble_room w b2 v2 l n j (j.toNat % l.length) _ _ _ h.r hk hp0 (by assumption) rfl hi rfl
  refine key.mono fun e w' ⟨he, hp⟩ => ?_
  obtain ⟨v, hv⟩ := h.stepX hp
  exact ⟨he, v, hv, hp.but⟩
end
end Go.Proofs.Ytjfnpedlegplnaa
