/- Package ether: Send, Take. Conditions: at most 1000 packets. -/
import Derived.Test.YtjfnpedlegplnaaEthC
namespace Go.Proofs.Ytjfnpedlegplnaa
open Go.RowKit Go.PlainAid

def okPkt (p : PktT) : Bool := isNode p.1 && isNode p.2.1
/-- What Send comes to: the answer, the packets, how many are lost. -/
def sendR (p : PktT) (l : List PktT) (n : Int) : Int × List PktT × Int := if okPkt p = true then (if 400 ≤ l.length then (6, l, lostN n) else (0, l ++ [p], n)) else (1, l, n)
/-- What a call leaves. -/
def EthPost (b : Nat) (v : Value) (w : World) (l : List PktT) (n : Int) (w' : World) : Prop := ∃ v', Eth w' b v' l n ∧ But (EthS b v) w w' ∧ ∀ g, v'.ownBlock = some g → v.ownBlock = some g ∨ w.heap.size ≤ g
theorem EthPost.kept {b : Nat} {v : Value} {w w' : World} {l : List PktT} {n : Int} (h : Eth w b v l n) (hb : Below w.heap.size w w') : EthPost b v w l n w' := ⟨v, h.kept hb, But.of_below hb, fun g hg => .inl hg⟩
/-- Behind what was kept. -/
theorem EthPost.after {b : Nat} {v : Value} {w w1 w' : World} {l : List PktT} {n : Int} (hb : Below w.heap.size w w1) (h : EthPost b v w1 l n w') : EthPost b v w l n w' := by
  obtain ⟨v', h1, h2, h3⟩ := h
  exact ⟨v', h1, (But.of_below hb).trans h2, fun g hg => (h3 g hg).imp id (fun h => Nat.le_trans hb.size h)⟩
theorem EthPost.lost {b : Nat} {v : Value} {w : World} {l : List PktT} {n : Int} (h : Eth w b v l n) : EthPost b v w l (lostN n) (w.setCell ⟨b, 2, none⟩ (.int .i64 (lostN n))) :=
  ⟨v, h.setN _, (But.refl _ w).setCell (p := ⟨b, 2, none⟩) (fun _ => .inl rfl) _, fun g hg => .inl hg⟩

set_option maxRecDepth 100000 in
set_option maxHeartbeats 1600000 in
theorem send_made (w : World) (b : Nat) (v : Value) (l : List PktT) (n : Int) (p : PktT) (h : Eth w b v l n) (hl : l.length ≤ 1000) (h0 : 0 ≤ n) (h1 : n ≤ 1073741824) :
    Calls Try.prog 60 #[.pointer (some ⟨b, 0, none⟩), pktV p] w fun e w' => e = .returned (.int .i64 (sendR p l n).1) ∧ EthPost b v w (sendR p l n).2.1 (sendR p l n).2.2 w' := by
  obtain ⟨fr, to, bd⟩ := p
  have hbl := h.lt
  have HE := Lib.hid h
  have HE1 := Lib.hid (h.kept (w' := w.alloc (.cells #[.int .i64 fr, .int .i64 to, .string bd] 110)) ((Below.refl _ w).alloc (Nat.le_refl _) _))
  have HB1 : Hid (Below w.heap.size w (w.alloc (.cells #[.int .i64 fr, .int .i64 to, .string bd] 110))) := Lib.hid ((Below.refl _ w).alloc (Nat.le_refl _) _)
  have x0 : (w.alloc (.cells #[.int .i64 fr, .int .i64 to, .string bd] 110)).cell? ⟨w.heap.size, 0, none⟩ = some (.int .i64 fr) := by rw [World.cell?_alloc_mark]; rfl
  have x1 : (w.alloc (.cells #[.int .i64 fr, .int .i64 to, .string bd] 110)).cell? ⟨w.heap.size, 1, none⟩ = some (.int .i64 to) := by rw [World.cell?_alloc_mark]; rfl
  have x2 : (w.alloc (.cells #[.int .i64 fr, .int .i64 to, .string bd] 110)).cell? ⟨w.heap.size, 2, none⟩ = some (.string bd) := by rw [World.cell?_alloc_mark]; rfl
  unfold pktV
  unfold sendR okPkt
  clear h
  dsimp only
  cases hn1 : isNode fr with
  | false =>
    rw [Bool.false_and, if_neg (by simp)]
    go_enter Try.func60, Try.ntmps60
    go_wp2_with (first
      | (go_at_call 103; refine (zero_made _ _ _ _ _ HE1.out).mono ?_; rintro e w1 ⟨rfl, rfl⟩)
      | (go_at_call 104; refine (node_any _ _).mono ?_; rintro e w1 ⟨rfl, rfl⟩; rw [hn1]))
    go_ret
    exact ⟨rfl, EthPost.kept HE.out HB1.out⟩
  | true =>
    rw [Bool.true_and]
    cases hn2 : isNode to with
    | false =>
      rw [if_neg (by simp)]
      have HN1 := Lib.hid hn1; have HN2 := Lib.hid hn2; clear hn1 hn2
      go_enter Try.func60, Try.ntmps60
      go_wp2_with fail
      refine (zero_made _ _ _ _ _ HE1.out).mono ?_
      rintro e w1 ⟨rfl, rfl⟩
      go_wp2_with fail
      refine (node_any _ _).mono ?_
      rintro e w1 ⟨rfl, rfl⟩
      rw [HN1.out]
      go_wp2_with fail
      refine (node_any _ _).mono ?_
      rintro e w1 ⟨rfl, rfl⟩
      rw [HN2.out]
      go_wp2
      go_ret
      exact ⟨rfl, EthPost.kept HE.out HB1.out⟩
    | true =>
      rw [if_pos rfl]
      have HN1 := Lib.hid hn1; have HN2 := Lib.hid hn2; clear hn1 hn2
      by_cases hfull : 400 ≤ l.length
      · rw [if_pos hfull]
        have hd : decide ((400 : Int) ≤ (l.length : Int)) = true := decide_eq_true (by omega)
        go_enter Try.func60, Try.ntmps60
        go_wp2_with fail
        refine (zero_made _ _ _ _ _ HE1.out).mono ?_
        rintro e w1 ⟨rfl, rfl⟩
        go_wp2_with fail
        refine (node_any _ _).mono ?_
        rintro e w1 ⟨rfl, rfl⟩
        rw [HN1.out]
        go_wp2_with fail
        refine (node_any _ _).mono ?_
        rintro e w1 ⟨rfl, rfl⟩
        rw [HN2.out]
        go_wp2_with (first
          | (go_at_call 68; refine (elen_made _ _ _ _ _ HE1.out).mono ?_; rintro e w1 ⟨rfl, rfl⟩)
          | (go_at_call 105; refine (lose_any _ _ _ _ _ HE1.out h0 h1).mono ?_; rintro e w1 ⟨rfl, hw1⟩; have HW1 := Lib.hid hw1; clear hw1))
        go_ret
        exact ⟨rfl, by rw [HW1.out]; exact (EthPost.lost HE1.out).after HB1.out⟩
      · rw [if_neg hfull]
        have hd : decide ((400 : Int) ≤ (l.length : Int)) = false := decide_eq_false (by omega)
        go_enter Try.func60, Try.ntmps60
        go_wp2_with fail
        refine (zero_made _ _ _ _ _ HE1.out).mono ?_
        rintro e w1 ⟨rfl, rfl⟩
        go_wp2_with fail
        refine (node_any _ _).mono ?_
        rintro e w1 ⟨rfl, rfl⟩
        rw [HN1.out]
        go_wp2_with fail
        refine (node_any _ _).mono ?_
        rintro e w1 ⟨rfl, rfl⟩
        rw [HN2.out]
        go_wp2_with (go_at_call 68; refine (elen_made _ _ _ _ _ HE1.out).mono ?_; rintro e w1 ⟨rfl, rfl⟩)
        go_region_law (go_simp; go_at_call 106; refine Calls.mono (add_any _ b v l n (fr, to, bd) (HE.out.kept (show Below w.heap.size w _ by (repeat (first | exact Below.refl _ _ | refine Below.alloc ?_ (by first | omega | (simp; done) | (simp; omega)) _ | refine Below.drew ?_ | refine below_draws ?_ _)))) hl) ?_; rintro e w2 ⟨rfl, hadd⟩; have HADD := Lib.hid (EthPost.after (show Below w.heap.size w _ by (repeat (first | exact Below.refl _ _ | refine Below.alloc ?_ (by first | omega | (simp; done) | (simp; omega)) _ | refine Below.drew ?_ | refine below_draws ?_ _))) hadd); clear hadd)
        all_goals (
          go_wp2
          go_ret
          exact ⟨rfl, HADD.out⟩)
set_option maxRecDepth 100000 in
set_option maxHeartbeats 400000 in
theorem send_nil (w : World) (p : PktT) : Calls Try.prog 60 #[.pointer none, pktV p] w fun e w' => e = .returned (.int .i64 8) ∧ Below w.heap.size w w' := by
  obtain ⟨fr, to, bd⟩ := p
  unfold pktV
  go_enter Try.func60, Try.ntmps60
  go_wp2_with (go_at_call 103; refine (zero_nil _).mono ?_; rintro e w1 ⟨rfl, rfl⟩)
  go_ret
  exact ⟨rfl, (Below.refl _ _).alloc (Nat.le_refl _) _⟩
set_option maxRecDepth 100000 in
set_option maxHeartbeats 400000 in
theorem etake_nil (w : World) (k : Int) : Calls Try.prog 62 #[.pointer none, .int .i64 k] w fun e w' => e = .returned (.tuple #[pktV (0, 0, ⟨#[]⟩), .int .i64 8]) ∧ Below w.heap.size w w' := by
  have r0 : (w.alloc (.cells #[.int .i64 0, .int .i64 0, .string ⟨#[]⟩] 110)).cell? ⟨w.heap.size, 0, none⟩ = some (.int .i64 0) := by rw [World.cell?_alloc_mark]; rfl
  have r1 : (w.alloc (.cells #[.int .i64 0, .int .i64 0, .string ⟨#[]⟩] 110)).cell? ⟨w.heap.size, 1, none⟩ = some (.int .i64 0) := by rw [World.cell?_alloc_mark]; rfl
  have r2 : (w.alloc (.cells #[.int .i64 0, .int .i64 0, .string ⟨#[]⟩] 110)).cell? ⟨w.heap.size, 2, none⟩ = some (.string ⟨#[]⟩) := by rw [World.cell?_alloc_mark]; rfl
  go_enter Try.func62, Try.ntmps62
  go_wp2_with (go_at_call 103; refine (zero_nil _).mono ?_; rintro e w1 ⟨rfl, rfl⟩)
  exact bodyPost_ret (v := .tuple #[.agg #[.int .i64 0, .int .i64 0, .string ⟨#[]⟩], .int .i64 8]) (by simp [results, Try.results62, go_sem, r0, r1, r2]) rfl ⟨rfl, (Below.refl _ _).alloc (Nat.le_refl _) _⟩
set_option maxRecDepth 100000 in
set_option maxHeartbeats 400000 in
theorem send_un (w : World) (b : Nat) (h : EthZ w b) (p : PktT) : Calls Try.prog 60 #[.pointer (some ⟨b, 0, none⟩), pktV p] w fun e w' => e = .returned (.int .i64 8) ∧ Below w.heap.size w w' := by
  obtain ⟨fr, to, bd⟩ := p
  unfold pktV
  have HE := Lib.hid (h.kept (w' := w.alloc (.cells #[.int .i64 fr, .int .i64 to, .string bd] 110)) ((Below.refl _ w).alloc (Nat.le_refl _) _)); clear h
  go_enter Try.func60, Try.ntmps60
  go_wp2_with (go_at_call 103; refine (zero_un _ _ HE.out).mono ?_; rintro e w1 ⟨rfl, rfl⟩)
  go_ret
  exact ⟨rfl, (Below.refl _ _).alloc (Nat.le_refl _) _⟩
set_option maxRecDepth 100000 in
set_option maxHeartbeats 400000 in
theorem etake_un (w : World) (b : Nat) (h : EthZ w b) (k : Int) : Calls Try.prog 62 #[.pointer (some ⟨b, 0, none⟩), .int .i64 k] w fun e w' => e = .returned (.tuple #[pktV (0, 0, ⟨#[]⟩), .int .i64 8]) ∧ Below w.heap.size w w' := by
  have HE := Lib.hid (h.kept (w' := w.alloc (.cells #[.int .i64 0, .int .i64 0, .string ⟨#[]⟩] 110)) ((Below.refl _ w).alloc (Nat.le_refl _) _)); clear h
  have r0 : (w.alloc (.cells #[.int .i64 0, .int .i64 0, .string ⟨#[]⟩] 110)).cell? ⟨w.heap.size, 0, none⟩ = some (.int .i64 0) := by rw [World.cell?_alloc_mark]; rfl
  have r1 : (w.alloc (.cells #[.int .i64 0, .int .i64 0, .string ⟨#[]⟩] 110)).cell? ⟨w.heap.size, 1, none⟩ = some (.int .i64 0) := by rw [World.cell?_alloc_mark]; rfl
  have r2 : (w.alloc (.cells #[.int .i64 0, .int .i64 0, .string ⟨#[]⟩] 110)).cell? ⟨w.heap.size, 2, none⟩ = some (.string ⟨#[]⟩) := by rw [World.cell?_alloc_mark]; rfl
  go_enter Try.func62, Try.ntmps62
  go_wp2_with (go_at_call 103; refine (zero_un _ _ HE.out).mono ?_; rintro e w1 ⟨rfl, rfl⟩)
  exact bodyPost_ret (v := .tuple #[.agg #[.int .i64 0, .int .i64 0, .string ⟨#[]⟩], .int .i64 8]) (by simp [results, Try.results62, go_sem, r0, r1, r2]) rfl ⟨rfl, (Below.refl _ _).alloc (Nat.le_refl _) _⟩
end Go.Proofs.Ytjfnpedlegplnaa
