/- catenaref21: Send, at, Take. Conditions: at most 1000 packets. -/
import Derived.Test.YtjfnpedlegplnaaEthH
namespace Go.Proofs.Ytjfnpedlegplnaa
open Go.RowKit Go.PlainAid

/-- The document's ether: block b; its packets l in the slice v; how many were lost. -/
structure REth (w : World) (b : Nat) (v : Value) (l : List PktT) (n : Int) : Prop where
  blk : w.heap[b]? = some (.cells #[v, .int .i64 n] 108 (0, 0))
  row : w.ownsRow (b + 1) 110 3 v l.length (l.flatMap pktE)
section
variable {w : World} {b : Nat} {v : Value} {l : List PktT} {n : Int}
theorem REth.c0 (h : REth w b v l n) : w.cell? ⟨b, 0, none⟩ = some v := by simp [World.cell?, h.blk]
theorem REth.c1 (h : REth w b v l n) : w.cell? ⟨b, 1, none⟩ = some (.int .i64 n) := by simp [World.cell?, h.blk]
theorem REth.fr (h : REth w b v l n) (o : Nat) : w.frozen? ⟨b, o, none⟩ = false := frozen_of_blk h.blk o
theorem REth.lt (h : REth w b v l n) : b < w.heap.size := (Array.getElem?_eq_some_iff.1 h.blk).1
theorem REth.slice (h : REth w b v l n) : SliceOf pktE 3 w v l := SliceOf.own h.row (fun _ _ => rfl)
theorem REth.kept {w' : World} (h : REth w b v l n) (hb : Below w.heap.size w w') : REth w' b v l n := ⟨by rw [hb.block b h.lt]; exact h.blk, row_below h.row hb⟩
theorem REth.setN (h : REth w b v l n) (m : Int) : REth (w.setCell ⟨b, 1, none⟩ (.int .i64 m)) b v l m :=
  ⟨setCell_heap w b 1 _ _ _ h.blk, h.row.kept (setCell_grown w b 1 _) (.inr (fun e => by have := (h.row.lt b (by first | exact e | exact e.symm)).1; omega))⟩
theorem REth.setV {w1 : World} {v' : Value} {l' : List PktT} (hb : w1.heap[b]? = some (.cells #[v, .int .i64 n] 108 (0, 0))) (hr : w1.ownsRow (b + 1) 110 3 v' l'.length (l'.flatMap pktE)) : REth (w1.setCell ⟨b, 0, none⟩ v') b v' l' n :=
  ⟨setCell_heap w1 b 0 _ _ _ hb, hr.kept (setCell_grown w1 b 0 _) (.inr (fun e => by have := (hr.lt b (by first | exact e | exact e.symm)).1; omega))⟩
theorem REth.other (h : REth w b v l n) (k o : Nat) (u : Value) (hk : k ≠ b) (hv : v.ownBlock ≠ some k) : REth (w.setCell ⟨k, o, none⟩ u) b v l n :=
  ⟨by rw [Below.heap_setCell _ _ _ _ (fun e => hk e.symm)]; exact h.blk, h.row.kept (setCell_grown w k o u) (.inr (fun e => hv (by first | exact e | exact e.symm)))⟩
end
theorem cell0_blk {w : World} {b : Nat} {v x : Value} {T : TypeId} (h : w.heap[b]? = some (.cells #[v, x] T (0, 0))) : w.cell? ⟨b, 0, none⟩ = some v := by simp [World.cell?, h]
/-- What a call of the document's leaves. -/
def RPost (b : Nat) (v : Value) (w : World) (l : List PktT) (n : Int) (w' : World) : Prop := ∃ v', REth w' b v' l n ∧ But (fun k => k = b) w w' ∧ ∀ g, v'.ownBlock = some g → v.ownBlock = some g ∨ w.heap.size ≤ g
theorem RPost.kept {b : Nat} {v : Value} {w w' : World} {l : List PktT} {n : Int} (h : REth w b v l n) (hb : Below w.heap.size w w') : RPost b v w l n w' := ⟨v, h.kept hb, But.of_below hb, fun g hg => .inl hg⟩
theorem RPost.after {b : Nat} {v : Value} {w w1 w' : World} {l : List PktT} {n : Int} (hb : Below w.heap.size w w1) (h : RPost b v w1 l n w') : RPost b v w l n w' := by
  obtain ⟨v', h1, h2, h3⟩ := h
  exact ⟨v', h1, (But.of_below hb).trans h2, fun g hg => (h3 g hg).imp id (fun h => Nat.le_trans hb.size h)⟩
theorem RPost.lost {b : Nat} {v : Value} {w : World} {l : List PktT} {n : Int} (h : REth w b v l n) : RPost b v w l (lostN n) (w.setCell ⟨b, 1, none⟩ (.int .i64 (lostN n))) :=
  ⟨v, h.setN _, (But.refl (fun k => k = b) w).setCell (p := ⟨b, 1, none⟩) (fun _ => rfl) _, fun g hg => .inl hg⟩
theorem pkt_one (l : List PktT) : ∀ y ∈ l, (pktE y).length = 3 ∧ ∀ u ∈ pktE y, u.oneCell' = true := fun y _ => ⟨rfl, pktE_one y⟩

set_option maxRecDepth 100000 in
set_option maxHeartbeats 400000 in
theorem rat_at (w : World) (b : Nat) (v : Value) (l : List PktT) (n k : Int) (i : Nat) (h : REth w b v l n) (hk : (Lit.int .i64 k).wf = true) (h0 : 0 < l.length) (hi : k.toNat % l.length = i) : Calls Try.prog 109 #[.pointer (some ⟨b, 0, none⟩), .int .i64 k] w fun e w' => e = .returned (.int .i64 (i : Int)) ∧ w = w' := by
  have c1 := h.c0
  obtain ⟨ao, cap, rfl, hc, hm, _⟩ := h.slice
  obtain ⟨q, hq⟩ : ∃ q, q = l.length := ⟨_, rfl⟩
  rw [← hq] at c1 hc h0 hi
  have hqz : ((q : Int) == 0) = false := beq_eq_false_iff_ne.2 (by omega)
  have hqz' : ¬ (q : Int) = 0 := by omega
  have hkb := wf_i64b hk
  by_cases hk0 : 0 < k
  · obtain ⟨m, rfl⟩ : ∃ m : Nat, k = (m : Int) := ⟨k.toNat, by omega⟩
    rw [Int.toNat_natCast] at hi
    have e1 : ((m : Int)).tmod (q : Int) = (i : Int) := by rw [← hi, Int.natCast_emod]; exact Int.tmod_eq_emod_of_nonneg (by omega)
    have e2 : ((m : Int)) % (q : Int) = (i : Int) := by rw [← hi, Int.natCast_emod]
    have e3 : decide ((0 : Int) < (m : Int)) = true := decide_eq_true hk0
    have e4 : decide ((m : Int) < 0) = false := decide_eq_false (by omega)
    clear hi h hq
    go_enter Try.func109, Try.ntmps109
    go_wp2
    go_ret
    exact ⟨rfl, rfl⟩
  · have hk1 : k.toNat = 0 := by omega
    rw [hk1, Nat.zero_mod] at hi
    subst hi
    have e3 : decide ((0 : Int) < k) = false := decide_eq_false hk0
    have e5 : (0 : Int).tmod (q : Int) = 0 := Int.zero_tmod _
    rcases Int.lt_trichotomy k 0 with hlt | rfl | hgt
    · have e4 : decide (k < 0) = true := decide_eq_true hlt
      clear h hq
      go_enter Try.func109, Try.ntmps109
      go_wp2
      go_ret
      exact ⟨rfl, rfl⟩
    · clear h hq
      go_enter Try.func109, Try.ntmps109
      go_wp2
      go_ret
      exact ⟨rfl, rfl⟩
    · omega
theorem own_lowE {w : World} {B B' : Nat} {e : TypeId} {k : Nat} {v : Value} {n : Nat} {xs : List Value} (h : w.ownsRow B e k v n xs) (hb : B' ≤ B) : w.ownsRow B' e k v n xs := by
  obtain ⟨h1, h2⟩ := h
  refine ⟨h1, ?_⟩
  rcases h2 with h2 | ⟨g, cap, cur, hv, hg, r⟩
  · exact Or.inl h2
  · exact Or.inr ⟨g, cap, cur, hv, Nat.le_trans hb hg, r⟩
theorem RPost.then {b : Nat} {v : Value} {w w' w2 : World} {l : List PktT} {n : Int} (hp : RPost b v w l n w') (hb : Below w'.heap.size w' w2) : RPost b v w l n w2 := by
  obtain ⟨v', h1, h2, h3⟩ := hp
  exact ⟨v', h1.kept hb, h2.trans (But.of_below hb), h3⟩
theorem isNode_yes {k : Int} (h : 0 ≤ k ∧ k < 8) : isNode k = true := by unfold isNode; rw [decide_eq_true h.1, decide_eq_true h.2]; rfl
theorem isNode_no {k : Int} (h : ¬ (0 ≤ k ∧ k < 8)) : isNode k = false := by
  unfold isNode
  by_cases h1 : 0 ≤ k
  · rw [decide_eq_false (show ¬ k < 8 from fun h2 => h ⟨h1, h2⟩), Bool.and_false]
  · rw [decide_eq_false h1, Bool.false_and]
theorem sendR_no1 {p : PktT} {l : List PktT} {n : Int} (h : ¬ (0 ≤ p.1 ∧ p.1 < 8)) : sendR p l n = (1, l, n) := by unfold sendR okPkt; rw [isNode_no h, Bool.false_and, if_neg (by simp)]
theorem sendR_no2 {p : PktT} {l : List PktT} {n : Int} (h : ¬ (0 ≤ p.2.1 ∧ p.2.1 < 8)) : sendR p l n = (1, l, n) := by unfold sendR okPkt; rw [isNode_no h, Bool.and_false, if_neg (by simp)]
theorem sendR_yes {p : PktT} {l : List PktT} {n : Int} (h : 0 ≤ p.1 ∧ p.1 < 8) (k : 0 ≤ p.2.1 ∧ p.2.1 < 8) : sendR p l n = if 400 ≤ l.length then (6, l, lostN n) else (0, l ++ [p], n) := by unfold sendR okPkt; rw [isNode_yes h, isNode_yes k, Bool.and_true, if_pos rfl]
set_option maxRecDepth 100000 in
set_option maxHeartbeats 800000 in
theorem rsend_b1 (w : World) (b : Nat) (v : Value) (l : List PktT) (n : Int) (fr to : Int) (bd : ByteArray) (h : REth w b v l n) (a1 : fr < 0) :
    Calls Try.prog 61 #[.pointer (some ⟨b, 0, none⟩), .agg #[.int .i64 fr, .int .i64 to, .string bd]] w fun e w' => e = .returned (.int .i64 1) ∧ RPost b v w l n w' := by
  have HE := Lib.hid h
  have x0 : (w.alloc (.cells #[.int .i64 fr, .int .i64 to, .string bd] 110)).cell? ⟨w.heap.size, 0, none⟩ = some (.int .i64 fr) := by rw [World.cell?_alloc_mark]; rfl
  have x1 : (w.alloc (.cells #[.int .i64 fr, .int .i64 to, .string bd] 110)).cell? ⟨w.heap.size, 1, none⟩ = some (.int .i64 to) := by rw [World.cell?_alloc_mark]; rfl
  have d0 : decide (fr < 0) = true := decide_eq_true a1
  clear h
  go_enter Try.func61, Try.ntmps61
  go_wp2
  go_ret
  exact ⟨rfl, RPost.kept HE.out ((Below.refl _ _).alloc (Nat.le_refl _) _)⟩
set_option maxRecDepth 100000 in
set_option maxHeartbeats 800000 in
theorem rsend_b2 (w : World) (b : Nat) (v : Value) (l : List PktT) (n : Int) (fr to : Int) (bd : ByteArray) (h : REth w b v l n) (a1 : 0 ≤ fr) (a2 : 8 ≤ fr) :
    Calls Try.prog 61 #[.pointer (some ⟨b, 0, none⟩), .agg #[.int .i64 fr, .int .i64 to, .string bd]] w fun e w' => e = .returned (.int .i64 1) ∧ RPost b v w l n w' := by
  have HE := Lib.hid h
  have x0 : (w.alloc (.cells #[.int .i64 fr, .int .i64 to, .string bd] 110)).cell? ⟨w.heap.size, 0, none⟩ = some (.int .i64 fr) := by rw [World.cell?_alloc_mark]; rfl
  have x1 : (w.alloc (.cells #[.int .i64 fr, .int .i64 to, .string bd] 110)).cell? ⟨w.heap.size, 1, none⟩ = some (.int .i64 to) := by rw [World.cell?_alloc_mark]; rfl
  have d0 : decide (fr < 0) = false := decide_eq_false (by omega)
  have d1 : decide ((8 : Int) ≤ fr) = true := decide_eq_true a2
  clear h
  go_enter Try.func61, Try.ntmps61
  go_wp2
  go_ret
  exact ⟨rfl, RPost.kept HE.out ((Below.refl _ _).alloc (Nat.le_refl _) _)⟩
set_option maxRecDepth 100000 in
set_option maxHeartbeats 800000 in
theorem rsend_b3 (w : World) (b : Nat) (v : Value) (l : List PktT) (n : Int) (fr to : Int) (bd : ByteArray) (h : REth w b v l n) (a1 : 0 ≤ fr) (a2 : fr < 8) (a3 : to < 0) :
    Calls Try.prog 61 #[.pointer (some ⟨b, 0, none⟩), .agg #[.int .i64 fr, .int .i64 to, .string bd]] w fun e w' => e = .returned (.int .i64 1) ∧ RPost b v w l n w' := by
  have HE := Lib.hid h
  have x0 : (w.alloc (.cells #[.int .i64 fr, .int .i64 to, .string bd] 110)).cell? ⟨w.heap.size, 0, none⟩ = some (.int .i64 fr) := by rw [World.cell?_alloc_mark]; rfl
  have x1 : (w.alloc (.cells #[.int .i64 fr, .int .i64 to, .string bd] 110)).cell? ⟨w.heap.size, 1, none⟩ = some (.int .i64 to) := by rw [World.cell?_alloc_mark]; rfl
  have d0 : decide (fr < 0) = false := decide_eq_false (by omega)
  have d1 : decide ((8 : Int) ≤ fr) = false := decide_eq_false (by omega)
  have d2 : decide (to < 0) = true := decide_eq_true a3
  clear h
  go_enter Try.func61, Try.ntmps61
  go_wp2
  go_ret
  exact ⟨rfl, RPost.kept HE.out ((Below.refl _ _).alloc (Nat.le_refl _) _)⟩
set_option maxRecDepth 100000 in
set_option maxHeartbeats 800000 in
theorem rsend_b4 (w : World) (b : Nat) (v : Value) (l : List PktT) (n : Int) (fr to : Int) (bd : ByteArray) (h : REth w b v l n) (a1 : 0 ≤ fr) (a2 : fr < 8) (a3 : 0 ≤ to) (a4 : 8 ≤ to) :
    Calls Try.prog 61 #[.pointer (some ⟨b, 0, none⟩), .agg #[.int .i64 fr, .int .i64 to, .string bd]] w fun e w' => e = .returned (.int .i64 1) ∧ RPost b v w l n w' := by
  have HE := Lib.hid h
  have x0 : (w.alloc (.cells #[.int .i64 fr, .int .i64 to, .string bd] 110)).cell? ⟨w.heap.size, 0, none⟩ = some (.int .i64 fr) := by rw [World.cell?_alloc_mark]; rfl
  have x1 : (w.alloc (.cells #[.int .i64 fr, .int .i64 to, .string bd] 110)).cell? ⟨w.heap.size, 1, none⟩ = some (.int .i64 to) := by rw [World.cell?_alloc_mark]; rfl
  have d0 : decide (fr < 0) = false := decide_eq_false (by omega)
  have d1 : decide ((8 : Int) ≤ fr) = false := decide_eq_false (by omega)
  have d2 : decide (to < 0) = false := decide_eq_false (by omega)
  have d3 : decide ((8 : Int) ≤ to) = true := decide_eq_true a4
  clear h
  go_enter Try.func61, Try.ntmps61
  go_wp2
  go_ret
  exact ⟨rfl, RPost.kept HE.out ((Below.refl _ _).alloc (Nat.le_refl _) _)⟩
set_option maxRecDepth 100000 in
set_option maxHeartbeats 1600000 in
theorem rsend_full (w : World) (b : Nat) (v : Value) (l : List PktT) (n : Int) (fr to : Int) (bd : ByteArray) (h : REth w b v l n) (h0 : 0 ≤ n) (h1 : n ≤ 1073741824) (hf : 0 ≤ fr ∧ fr < 8) (ht : 0 ≤ to ∧ to < 8) (hl : 400 ≤ l.length) :
    Calls Try.prog 61 #[.pointer (some ⟨b, 0, none⟩), .agg #[.int .i64 fr, .int .i64 to, .string bd]] w fun e w' => e = .returned (.int .i64 6) ∧ RPost b v w l (lostN n) w' := by
  have hbl := h.lt
  have c0 := h.c0; have c1 := h.c1; have f1 := h.fr 1
  obtain ⟨ao, cap, rfl, _⟩ := h.slice
  have HE := Lib.hid (RPost.lost h)
  have x0 : (w.alloc (.cells #[.int .i64 fr, .int .i64 to, .string bd] 110)).cell? ⟨w.heap.size, 0, none⟩ = some (.int .i64 fr) := by rw [World.cell?_alloc_mark]; rfl
  have x1 : (w.alloc (.cells #[.int .i64 fr, .int .i64 to, .string bd] 110)).cell? ⟨w.heap.size, 1, none⟩ = some (.int .i64 to) := by rw [World.cell?_alloc_mark]; rfl
  have d1 : decide (fr < 0) = false := decide_eq_false (by omega)
  have d2 : decide ((8 : Int) ≤ fr) = false := decide_eq_false (by omega)
  have d3 : decide (to < 0) = false := decide_eq_false (by omega)
  have d4 : decide ((8 : Int) ≤ to) = false := decide_eq_false (by omega)
  have d5 : decide ((400 : Int) ≤ (l.length : Int)) = true := decide_eq_true (by omega)
  have hw : IntKind.i64.wrap (n + 1) = n + 1 := IntWalk.i64_in _ ⟨by omega, by omega⟩
  clear h hf ht
  unfold lostN at HE ⊢
  by_cases hb : 1073741824 < n + 1
  · have hd : decide (1073741824 < n + 1) = true := decide_eq_true hb
    have hd2 : decide (n + 1 < 1073741824) = false := decide_eq_false (by omega)
    rw [if_pos hb] at HE ⊢
    go_enter Try.func61, Try.ntmps61
    go_wp2
    go_ret
    exact ⟨rfl, by first | exact HE.out.then ((Below.refl _ _).alloc (Nat.le_refl _) _) | exact HE.out⟩
  · have hd : decide (1073741824 < n + 1) = false := decide_eq_false hb
    rw [if_neg hb] at HE ⊢
    rcases Int.lt_trichotomy (n + 1) 1073741824 with hlt | heq | hgt
    · have hd2 : decide (n + 1 < 1073741824) = true := decide_eq_true hlt
      go_enter Try.func61, Try.ntmps61
      go_wp2
      go_ret
      exact ⟨rfl, by first | exact HE.out.then ((Below.refl _ _).alloc (Nat.le_refl _) _) | exact HE.out⟩
    · obtain rfl : n = 1073741823 := by omega
      go_enter Try.func61, Try.ntmps61
      go_wp2
      go_ret
      exact ⟨rfl, by first | exact HE.out.then ((Below.refl _ _).alloc (Nat.le_refl _) _) | exact HE.out⟩
    · omega
set_option maxRecDepth 100000 in
set_option maxHeartbeats 3200000 in
theorem rsend_room (w : World) (b : Nat) (v : Value) (l : List PktT) (n : Int) (fr to : Int) (bd : ByteArray) (h : REth w b v l n) (hf : 0 ≤ fr ∧ fr < 8) (ht : 0 ≤ to ∧ to < 8) (hl : ¬ 400 ≤ l.length) :
    Calls Try.prog 61 #[.pointer (some ⟨b, 0, none⟩), .agg #[.int .i64 fr, .int .i64 to, .string bd]] w fun e w' => e = .returned (.int .i64 0) ∧ RPost b v w (l ++ [(fr, to, bd)]) n w' := by
  obtain ⟨i0, hi, hz0, hz1, hz2⟩ := info_parts info_pkt
  have hbl := h.lt
  have c0 := h.c0; have f0 := h.fr 0
  have hbl1 : b < w.heap.size + 1 := by omega
  have hbl2 : b < w.heap.size + 1 + 1 := by omega
  have hbl3 : b < w.heap.size + 2 := by omega
  have hbn0 : ¬ b = w.heap.size := by omega
  have hbn1 : ¬ b = w.heap.size + 1 := by omega
  have hbn2 : ¬ b = w.heap.size + 2 := by omega
  have HE := Lib.hid h
  have HSL := Lib.hid h.slice
  obtain ⟨ao, cap, rfl, _⟩ := h.slice
  have x0 : (w.alloc (.cells #[.int .i64 fr, .int .i64 to, .string bd] 110)).cell? ⟨w.heap.size, 0, none⟩ = some (.int .i64 fr) := by rw [World.cell?_alloc_mark]; rfl
  have x1 : (w.alloc (.cells #[.int .i64 fr, .int .i64 to, .string bd] 110)).cell? ⟨w.heap.size, 1, none⟩ = some (.int .i64 to) := by rw [World.cell?_alloc_mark]; rfl
  have x2 : (w.alloc (.cells #[.int .i64 fr, .int .i64 to, .string bd] 110)).cell? ⟨w.heap.size, 2, none⟩ = some (.string bd) := by rw [World.cell?_alloc_mark]; rfl
  have HX : Hid (Box3 (w.alloc (.cells #[.int .i64 fr, .int .i64 to, .string bd] 110)) w.heap.size (fr, to, bd)) := Lib.hid (alloc_at _ _)
  have d1 : decide (fr < 0) = false := decide_eq_false (by omega)
  have d2 : decide ((8 : Int) ≤ fr) = false := decide_eq_false (by omega)
  have d3 : decide (to < 0) = false := decide_eq_false (by omega)
  have d4 : decide ((8 : Int) ≤ to) = false := decide_eq_false (by omega)
  have d5 : decide ((400 : Int) ≤ (l.length : Int)) = false := decide_eq_false (by omega)
  clear h hf ht
  go_enter Try.func61, Try.ntmps61
  go_wp2_with fail
  go_region_law (first
    | (refine step_append_src rfl (.tmp 39) (.tmp 43) 106 rfl (w.heap.size + 1) 110 i0 (.agg #[.int .i64 0, .int .i64 0, .string ⟨#[]⟩]) 3 32 Try.underlying106 hi hz0 hz1 hz2 rfl (by decide) _ 0 [] rfl (by first | exact row_empty _ _ _ _ _ (by simp) (by omega) | exact (row_empty _ _ _ _ _ (by simp) (by omega)).alloc _) pktE l _ rfl (HSL.out.below (by (repeat (first | exact Below.refl _ _ | refine Below.alloc ?_ (by first | omega | (simp; done) | (simp; omega)) _ | refine Below.drew ?_ | refine below_draws ?_ _)))) (pkt_one l) (by unfold maxLen; omega) (by omega) (by simp <;> omega) ?_; intro v5 w5 hown5 hgr5; have hbx : Below ((w.alloc (.cells #[.int .i64 fr, .int .i64 to, .string bd] 110))).heap.size ((w.alloc (.cells #[.int .i64 fr, .int .i64 to, .string bd] 110))) w5 := Below.grown (by (repeat (first | exact Below.refl _ _ | refine Below.alloc ?_ (by first | omega | (simp; done) | (simp; omega)) _ | refine Below.drew ?_ | refine below_draws ?_ _))) hgr5 (by simp <;> omega) (fun k hk => by cases hk; simp <;> omega); have hqs := (HX.out.kept hbx).cells; have q0 := hqs.1; have q1 := hqs.2.1; have q2 := hqs.2.2; have ho5 := Lib.hid (show w5.ownsRow (w.heap.size + 1) 110 3 v5 l.length (l.flatMap pktE) by have h7 := hown5; rwa [Nat.zero_add] at h7); clear hown5 hqs)
    | (refine step_append_lies _ rfl (.tmp 44) (.tmp 46) 106 rfl (w.heap.size + 1) 110 i0 (.agg #[.int .i64 0, .int .i64 0, .string ⟨#[]⟩]) 3 32 Try.underlying106 hi hz0 hz1 hz2 rfl (by decide) _ l.length _ rfl (by first | exact ho5.out | exact ho5.out.alloc _) _ 1 1 [.int .i64 fr, .int .i64 to, .string bd] rfl rfl (by first | exact World.news_of_block (alloc_at _ _) | exact fun j u hj => hgr5.cell (World.news_of_block (alloc_at' _ _ _ (by simp)) j u hj) (by rw [Addr.add_lit]; intro h8; injection h8 with h9; first | omega | (simp at h9; done) | (simp at h9; omega)) | exact fun j u hj => hgr5.cell (cell_below (Below.alloc (Below.refl _ _) (Nat.le_refl _) _) (World.news_of_block (alloc_at' _ _ _ (by simp)) j u hj)) (by rw [Addr.add_lit]; intro h8; injection h8 with h9; first | omega | (simp at h9; done) | (simp at h9; omega))) (by simp [Value.oneCell']) (by omega) (by unfold maxLen; omega) (by omega) (by have := hbx.size; simp at this; simp <;> omega) _ rfl ?_; intro g6 cp6 w6 hown6 hgr6 hg6 hg6s; have hob := own_block ho5.out; have hbx6 := Lib.hid (Below.grown (B := (w.alloc (.cells #[.int .i64 fr, .int .i64 to, .string bd] 110)).heap.size) (a := (w.alloc (.cells #[.int .i64 fr, .int .i64 to, .string bd] 110))) (by first | exact hbx | exact hbx.drew | exact (hbx.alloc (by first | omega | (simp; omega) | (have := hbx.size; simp at this; simp <;> omega)) _) | exact (hbx.alloc (by first | omega | (simp; omega) | (have := hbx.size; simp at this; simp <;> omega)) _).drew) hgr6 (by have := hbx.size; simp at this; simp <;> omega) (fun k hk => by have := hob k hk; simp <;> omega)); have HO6 := Lib.hid hown6; have hbw6 := Lib.hid (((Below.refl _ w).alloc (Nat.le_refl _) _).trans (hbx6.out.mono (by simp))); have hb6 : w6.heap[b]? = some (.cells #[.slice ao l.length cap, .int .i64 n] 108 (0, 0)) := (hbw6.out.block b hbl).trans HE.out.blk; have y0 : w6.cell? ⟨b, 0, none⟩ = some (.slice ao l.length cap) := cell0_blk hb6; have z0 : w6.frozen? ⟨b, 0, none⟩ = false := frozen_of_blk hb6 0; have HB6 := Lib.hid hb6; clear hown6 hgr6 hb6))
  all_goals (
    have HF := Lib.hid (REth.setV (l' := l ++ [(fr, to, bd)]) HB6.out (own_lowE (by rw [List.flatMap_append, List.length_append]; exact HO6.out) (by omega)))
    have HBT := Lib.hid (((But.of_below (S := fun k => k = b) hbw6.out).setCell (p := ⟨b, 0, none⟩) (fun _ => rfl) (.slice (some ⟨g6, 0, none⟩) (l.length + 1) cp6)))
    have HOW : Hid (∀ g, (Value.slice (some ⟨g6, 0, none⟩) (l.length + 1) cp6).ownBlock = some g → (Value.slice ao l.length cap).ownBlock = some g ∨ w.heap.size ≤ g) := Lib.hid (fun g hg => .inr (by have h9 := own_block HO6.out g hg; omega))
    go_wp2
    go_ret
    exact ⟨rfl, _, HF.out, HBT.out, HOW.out⟩)
theorem rsend_any (w : World) (b : Nat) (v : Value) (l : List PktT) (n : Int) (p : PktT) (h : REth w b v l n) (h0 : 0 ≤ n) (h1 : n ≤ 1073741824) :
    Calls Try.prog 61 #[.pointer (some ⟨b, 0, none⟩), pktV p] w fun e w' => e = .returned (.int .i64 (sendR p l n).1) ∧ RPost b v w (sendR p l n).2.1 (sendR p l n).2.2 w' := by
  obtain ⟨fr, to, bd⟩ := p
  by_cases hf : 0 ≤ fr ∧ fr < 8
  · by_cases ht : 0 ≤ to ∧ to < 8
    · by_cases hl : 400 ≤ l.length
      · rw [sendR_yes hf ht, if_pos hl]; exact rsend_full w b v l n fr to bd h h0 h1 hf ht hl
      · rw [sendR_yes hf ht, if_neg hl]; exact rsend_room w b v l n fr to bd h hf ht hl
    · rw [sendR_no2 ht]
      by_cases h3 : 0 ≤ to
      · exact rsend_b4 w b v l n fr to bd h hf.1 hf.2 h3 (by omega)
      · exact rsend_b3 w b v l n fr to bd h hf.1 hf.2 (by omega)
  · rw [sendR_no1 hf]
    by_cases h3 : 0 ≤ fr
    · exact rsend_b2 w b v l n fr to bd h h3 (by omega)
    · exact rsend_b1 w b v l n fr to bd h (by omega)
end Go.Proofs.Ytjfnpedlegplnaa
