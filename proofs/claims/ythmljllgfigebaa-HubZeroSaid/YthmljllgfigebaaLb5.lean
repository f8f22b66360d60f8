/- Put together: HubA, HubB, HubC, HubD, HubE, HubF. Conditions: as each says. -/
import Derived.Test.YthmljllgfigebaaLinkMLb
import Derived.RangeFuncNested
import Derived.RangeFuncBound
import Derived.RangeFuncCalls
import Derived.RangeFuncLeaves
import Derived.RangeFuncBox
import Derived.Shelf.Abstract
import Derived.Shelf.RegionOpen
import Derived.WalkKit
import Derived.OwnWalkIn
import Derived.TacticsInMore
import Derived.LoopNIn
import Derived.LoopIn
import Derived.ScopeJumps
import Derived.Test.YthmljllgfigebaaLinkSLb
import Derived.Test.YthmljllgfigebaaLinkRLb
/- Package hub: of, find, zero; what a hub holds. Conditions: none. -/
namespace Go.Proofs.Ythmljllgfigebaa
open Go.RowKit Go.PlainAid
set_option linter.unusedVariables false

/-- A pointer to a block, or none. -/
def ptQ : Option Nat → Value
  | none => .pointer none
  | some N => pt N 0
def hubC (q : Nat → Option Nat) : Array Value := #[.bool true, ptQ (q 0), ptQ (q 1), ptQ (q 2), ptQ (q 3)]
/-- The link that is found. -/
def atQ (q : Nat → Option Nat) (n : Int) : Option Nat := if 0 ≤ n ∧ n < 4 then q n.toNat else none
theorem atQ_in {q : Nat → Option Nat} {i : Nat} (h : i < 4) : atQ q (i : Int) = q i := by unfold atQ; rw [if_pos ⟨by omega, by omega⟩]; rfl
theorem atQ_out {q : Nat → Option Nat} {n : Int} (h : ∀ j : Nat, j < 4 → q j ≠ none → n ≠ (j : Int)) : atQ q n = none := by
  unfold atQ
  split
  · rename_i hh
    cases hq : q n.toNat with
    | none => rfl
    | some N => exact absurd (by omega) (h n.toNat (by omega) (by rw [hq]; simp))
  · rfl

set_option maxRecDepth 100000 in
set_option maxHeartbeats 3200000 in
theorem hbIs_any (N : Nat) (n k : Int) (w : World) (h : w.cell? ⟨N, 0, none⟩ = some (.int .i64 k)) : Calls Try.prog 125 #[.int .i64 n, .pointer (some ⟨N, 0, none⟩)] w fun e w' => e = .returned (.bool (n == k)) ∧ w = w' := by
  go_enter Try.func125, Try.ntmps125
  go_wp2
  go_ret
  exact ⟨rfl, rfl⟩

set_option maxRecDepth 100000 in
set_option maxHeartbeats 3200000 in
theorem hbZero_ok (b : Nat) (q : Nat → Option Nat) (w : World) (h : Blk w b 129 (hubC q)) : Calls Try.prog 99 #[pt b 0] w fun e w' => e = .returned (.bool false) ∧ w = w' := by
  have c0 : w.cell? ⟨b, 0, none⟩ = some (.bool true) := h.cell (k := 0) rfl
  go_enter Try.func99, Try.ntmps99
  go_wp2
  go_ret
  exact ⟨rfl, rfl⟩

set_option maxRecDepth 100000 in
set_option maxHeartbeats 3200000 in
theorem hbFind_any (b N : Nat) (q : Nat → Option Nat) (k : Int) (w : World) (h : Blk w b 129 (hubC q)) (hk : w.cell? ⟨N, 0, none⟩ = some (.int .i64 k)) : Calls Try.prog 124 #[pt b 0, .func (.func 125) #[] #[.pointer (some ⟨N, 0, none⟩)]] w fun e w' => e = .returned (ptQ (atQ q k)) ∧ w = w' := by
  have c1 : w.cell? ⟨b, 1, none⟩ = some (ptQ (q 0)) := h.cell (k := 1) rfl; have c2 : w.cell? ⟨b, 2, none⟩ = some (ptQ (q 1)) := h.cell (k := 2) rfl; have c3 : w.cell? ⟨b, 3, none⟩ = some (ptQ (q 2)) := h.cell (k := 3) rfl; have c4 : w.cell? ⟨b, 4, none⟩ = some (ptQ (q 3)) := h.cell (k := 4) rfl
  have HC := Lib.hid h; have HK := Lib.hid hk; clear h hk
  go_enter Try.func124, Try.ntmps124
  go_wp2
  clear c1 c2 c3 c4
  go_loopg [11] 5 (fun g s11 wr => ∃ i : Nat, s11 = .int .i64 i ∧ i ≤ 4 ∧ 5 ≤ i + g ∧ Hid (∀ j : Nat, j < i → q j ≠ none → k ≠ (j : Int)) ∧ w = wr)
  case atStart => exact ⟨0, rfl, by omega, by omega, Lib.hid (fun j hj => absurd hj (by omega)), rfl⟩
  case round =>
    obtain ⟨i, rfl, hi, hg, HJ, rfl⟩ := hrel
    have h5 : i = 4 ∨ i = 0 ∨ i = 1 ∨ i = 2 ∨ i = 3 := by omega
    rcases h5 with h | h | h | h | h
    · obtain rfl : i = 4 := h
      go_wp2
      go_ret
      exact ⟨by rw [atQ_out HJ.out]; rfl, rfl⟩
    · obtain rfl : i = 0 := h
      obtain hq | ⟨M, hq⟩ : q 0 = none ∨ ∃ M, q 0 = some M := by cases q 0 <;> simp
      · have hp : ptQ (q 0) = .pointer none := by rw [hq]; rfl
        rw [hp]
        have HP := Lib.hid hp; clear hp
        have ix : ∀ w : World, (Instr.index 127 (.agg #[.pointer none, ptQ (q 1), ptQ (q 2), ptQ (q 3)]) (.int .i64 0)).run Try.prog w = .ok (.pointer none) w := fun w => by kernel_rfl
        go_wp2
        rw [← HP.out]
        go_roundg (gk - 1)
        case rel => exact ⟨1, rfl, by omega, by omega, Lib.hid (fun j hj hn => by rcases Nat.lt_succ_iff_lt_or_eq.1 hj with h | h; exact HJ.out j h hn; subst h; exact absurd hq hn), rfl⟩
        case measure => omega
      · have hp : ptQ (q 0) = .pointer (some ⟨M, 0, none⟩) := by rw [hq]; rfl
        rw [hp]
        have HP := Lib.hid hp; clear hp
        have ix : ∀ w : World, (Instr.index 127 (.agg #[.pointer (some ⟨M, 0, none⟩), ptQ (q 1), ptQ (q 2), ptQ (q 3)]) (.int .i64 0)).run Try.prog w = .ok (.pointer (some ⟨M, 0, none⟩)) w := fun w => by kernel_rfl
        by_cases hk2 : k = 0
        · have hd : ((0 : Int) == k) = true := by rw [hk2]; rfl
          go_wp2_with fail
          refine (hbIs_any N 0 k _ HK.out).mono ?_
          rintro e w1 ⟨rfl, rfl⟩
          rw [hd]
          go_wp2
          go_ret
          exact ⟨by rw [hk2, show (0 : Int) = ((0 : Nat) : Int) from rfl, atQ_in (by omega), hq]; rfl, rfl⟩
        · have hd : ((0 : Int) == k) = false := by simp; omega
          go_wp2_with fail
          refine (hbIs_any N 0 k _ HK.out).mono ?_
          rintro e w1 ⟨rfl, rfl⟩
          rw [hd]
          go_wp2
          rw [← HP.out]
          go_roundg (gk - 1)
          case rel => exact ⟨1, rfl, by omega, by omega, Lib.hid (fun j hj hn => by rcases Nat.lt_succ_iff_lt_or_eq.1 hj with h | h; exact HJ.out j h hn; subst h; simpa using hk2), rfl⟩
          case measure => omega
    · obtain rfl : i = 1 := h
      obtain hq | ⟨M, hq⟩ : q 1 = none ∨ ∃ M, q 1 = some M := by cases q 1 <;> simp
      · have hp : ptQ (q 1) = .pointer none := by rw [hq]; rfl
        rw [hp]
        have HP := Lib.hid hp; clear hp
        have ix : ∀ w : World, (Instr.index 127 (.agg #[ptQ (q 0), .pointer none, ptQ (q 2), ptQ (q 3)]) (.int .i64 1)).run Try.prog w = .ok (.pointer none) w := fun w => by kernel_rfl
        go_wp2
        rw [← HP.out]
        go_roundg (gk - 1)
        case rel => exact ⟨2, rfl, by omega, by omega, Lib.hid (fun j hj hn => by rcases Nat.lt_succ_iff_lt_or_eq.1 hj with h | h; exact HJ.out j h hn; subst h; exact absurd hq hn), rfl⟩
        case measure => omega
      · have hp : ptQ (q 1) = .pointer (some ⟨M, 0, none⟩) := by rw [hq]; rfl
        rw [hp]
        have HP := Lib.hid hp; clear hp
        have ix : ∀ w : World, (Instr.index 127 (.agg #[ptQ (q 0), .pointer (some ⟨M, 0, none⟩), ptQ (q 2), ptQ (q 3)]) (.int .i64 1)).run Try.prog w = .ok (.pointer (some ⟨M, 0, none⟩)) w := fun w => by kernel_rfl
        by_cases hk2 : k = 1
        · have hd : ((1 : Int) == k) = true := by rw [hk2]; rfl
          go_wp2_with fail
          refine (hbIs_any N 1 k _ HK.out).mono ?_
          rintro e w1 ⟨rfl, rfl⟩
          rw [hd]
          go_wp2
          go_ret
          exact ⟨by rw [hk2, show (1 : Int) = ((1 : Nat) : Int) from rfl, atQ_in (by omega), hq]; rfl, rfl⟩
        · have hd : ((1 : Int) == k) = false := by simp; omega
          go_wp2_with fail
          refine (hbIs_any N 1 k _ HK.out).mono ?_
          rintro e w1 ⟨rfl, rfl⟩
          rw [hd]
          go_wp2
          rw [← HP.out]
          go_roundg (gk - 1)
          case rel => exact ⟨2, rfl, by omega, by omega, Lib.hid (fun j hj hn => by rcases Nat.lt_succ_iff_lt_or_eq.1 hj with h | h; exact HJ.out j h hn; subst h; simpa using hk2), rfl⟩
          case measure => omega
    · obtain rfl : i = 2 := h
      obtain hq | ⟨M, hq⟩ : q 2 = none ∨ ∃ M, q 2 = some M := by cases q 2 <;> simp
      · have hp : ptQ (q 2) = .pointer none := by rw [hq]; rfl
        rw [hp]
        have HP := Lib.hid hp; clear hp
        have ix : ∀ w : World, (Instr.index 127 (.agg #[ptQ (q 0), ptQ (q 1), .pointer none, ptQ (q 3)]) (.int .i64 2)).run Try.prog w = .ok (.pointer none) w := fun w => by kernel_rfl
        go_wp2
        rw [← HP.out]
        go_roundg (gk - 1)
        case rel => exact ⟨3, rfl, by omega, by omega, Lib.hid (fun j hj hn => by rcases Nat.lt_succ_iff_lt_or_eq.1 hj with h | h; exact HJ.out j h hn; subst h; exact absurd hq hn), rfl⟩
        case measure => omega
      · have hp : ptQ (q 2) = .pointer (some ⟨M, 0, none⟩) := by rw [hq]; rfl
        rw [hp]
        have HP := Lib.hid hp; clear hp
        have ix : ∀ w : World, (Instr.index 127 (.agg #[ptQ (q 0), ptQ (q 1), .pointer (some ⟨M, 0, none⟩), ptQ (q 3)]) (.int .i64 2)).run Try.prog w = .ok (.pointer (some ⟨M, 0, none⟩)) w := fun w => by kernel_rfl
        by_cases hk2 : k = 2
        · have hd : ((2 : Int) == k) = true := by rw [hk2]; rfl
          go_wp2_with fail
          refine (hbIs_any N 2 k _ HK.out).mono ?_
          rintro e w1 ⟨rfl, rfl⟩
          rw [hd]
          go_wp2
          go_ret
          exact ⟨by rw [hk2, show (2 : Int) = ((2 : Nat) : Int) from rfl, atQ_in (by omega), hq]; rfl, rfl⟩
        · have hd : ((2 : Int) == k) = false := by simp; omega
          go_wp2_with fail
          refine (hbIs_any N 2 k _ HK.out).mono ?_
          rintro e w1 ⟨rfl, rfl⟩
          rw [hd]
          go_wp2
          rw [← HP.out]
          go_roundg (gk - 1)
          case rel => exact ⟨3, rfl, by omega, by omega, Lib.hid (fun j hj hn => by rcases Nat.lt_succ_iff_lt_or_eq.1 hj with h | h; exact HJ.out j h hn; subst h; simpa using hk2), rfl⟩
          case measure => omega
    · obtain rfl : i = 3 := h
      obtain hq | ⟨M, hq⟩ : q 3 = none ∨ ∃ M, q 3 = some M := by cases q 3 <;> simp
      · have hp : ptQ (q 3) = .pointer none := by rw [hq]; rfl
        rw [hp]
        have HP := Lib.hid hp; clear hp
        have ix : ∀ w : World, (Instr.index 127 (.agg #[ptQ (q 0), ptQ (q 1), ptQ (q 2), .pointer none]) (.int .i64 3)).run Try.prog w = .ok (.pointer none) w := fun w => by kernel_rfl
        go_wp2
        rw [← HP.out]
        go_roundg (gk - 1)
        case rel => exact ⟨4, rfl, by omega, by omega, Lib.hid (fun j hj hn => by rcases Nat.lt_succ_iff_lt_or_eq.1 hj with h | h; exact HJ.out j h hn; subst h; exact absurd hq hn), rfl⟩
        case measure => omega
      · have hp : ptQ (q 3) = .pointer (some ⟨M, 0, none⟩) := by rw [hq]; rfl
        rw [hp]
        have HP := Lib.hid hp; clear hp
        have ix : ∀ w : World, (Instr.index 127 (.agg #[ptQ (q 0), ptQ (q 1), ptQ (q 2), .pointer (some ⟨M, 0, none⟩)]) (.int .i64 3)).run Try.prog w = .ok (.pointer (some ⟨M, 0, none⟩)) w := fun w => by kernel_rfl
        by_cases hk2 : k = 3
        · have hd : ((3 : Int) == k) = true := by rw [hk2]; rfl
          go_wp2_with fail
          refine (hbIs_any N 3 k _ HK.out).mono ?_
          rintro e w1 ⟨rfl, rfl⟩
          rw [hd]
          go_wp2
          go_ret
          exact ⟨by rw [hk2, show (3 : Int) = ((3 : Nat) : Int) from rfl, atQ_in (by omega), hq]; rfl, rfl⟩
        · have hd : ((3 : Int) == k) = false := by simp; omega
          go_wp2_with fail
          refine (hbIs_any N 3 k _ HK.out).mono ?_
          rintro e w1 ⟨rfl, rfl⟩
          rw [hd]
          go_wp2
          rw [← HP.out]
          go_roundg (gk - 1)
          case rel => exact ⟨4, rfl, by omega, by omega, Lib.hid (fun j hj hn => by rcases Nat.lt_succ_iff_lt_or_eq.1 hj with h | h; exact HJ.out j h hn; subst h; simpa using hk2), rfl⟩
          case measure => omega
end Go.Proofs.Ythmljllgfigebaa

/- Package hub: a hub as an object; the program's of, Send, Waiting, In. Conditions: a text of at most 2^63 - 1 bytes. -/
namespace Go.Proofs.Ythmljllgfigebaa
open Go.RowKit Go.PlainAid
set_option linter.unusedVariables false

/-- A hub at b: the blocks of its links, and their footprints. -/
structure HbQ (TH TL : TypeId) (C : (Nat → Option Nat) → Array Value) (q : Nat → Option Nat) (F : Nat → Nat → Prop) (S : Nat → Prop) (w : World) (b : Nat) (M : Nat → Option LnT) : Prop where
  blk : Blk w b TH (C q)
  one : ∀ i, i < 4 → ((q i = none ∧ M i = none ∧ ∀ k, ¬ F i k) ∨ ∃ N L, q i = some N ∧ M i = some L ∧ LkO TL (F i) w N L)
  sep : ∀ i j k, i < 4 → j < 4 → i ≠ j → F i k → F j k → False
  off : ∀ i k, i < 4 → F i k → k ≠ b
  fp : ∀ k, S k ↔ k = b ∨ ∃ i, i < 4 ∧ F i k
def HbX (TH TL : TypeId) (C : (Nat → Option Nat) → Array Value) (S : Nat → Prop) (w : World) (b : Nat) (M : Nat → Option LnT) : Prop := ∃ q F, HbQ TH TL C q F S w b M
def setM (M : Nat → Option LnT) (i : Nat) (L : LnT) : Nat → Option LnT := fun j => if j = i then some L else M j
/-- The link with that one. -/
def atM (M : Nat → Option LnT) (n : Int) : Option LnT := if 0 ≤ n ∧ n < 4 then M n.toNat else none
section
variable {TH TL : TypeId} {C : (Nat → Option Nat) → Array Value} {q : Nat → Option Nat} {F : Nat → Nat → Prop} {S S' D : Nat → Prop} {w x : World} {b N i : Nat} {M : Nat → Option LnT} {L : LnT} {n : Int}
theorem HbQ.keep (h : HbQ TH TL C q F S w b M) (hk : ∀ k, S k → x.heap[k]? = w.heap[k]?) : HbQ TH TL C q F S x b M := by
  refine ⟨?_, fun i hi => ?_, h.sep, h.off, h.fp⟩
  · have h1 := h.blk
    unfold Blk at h1 ⊢
    rw [hk b ((h.fp b).2 (.inl rfl))]; exact h1
  · rcases h.one i hi with h1 | ⟨N, L, h1, h2, h3⟩
    · exact .inl h1
    · exact .inr ⟨N, L, h1, h2, h3.keep fun k hf => hk k ((h.fp k).2 (.inr ⟨i, hi, hf⟩))⟩
theorem HbQ.ofS (h : HbQ TH TL C q F S w b M) : ∀ k, S k → k < w.heap.size := fun k hs => by
  rcases (h.fp k).1 hs with rfl | ⟨i, hi, hf⟩
  · exact h.blk.lt
  · rcases h.one i hi with h1 | ⟨N, L, h1, h2, h3⟩
    · exact absurd hf (h1.2.2 k)
    · exact h3.ofS k hf
theorem HbX.ofS (h : HbX TH TL C S w b M) : ∀ k, S k → k < w.heap.size := by obtain ⟨q, F, h⟩ := h; exact h.ofS
theorem HbX.keep (h : HbX TH TL C S w b M) (hk : ∀ k, S k → x.heap[k]? = w.heap[k]?) : HbX TH TL C S x b M := by obtain ⟨q, F, h⟩ := h; exact ⟨q, F, h.keep hk⟩
theorem HbX.gr {row : Option Nat} (h : HbX TH TL C S w b M) (hg : w.grownBy x row) (hr : ∀ k, row = some k → ¬ S k) : HbX TH TL C S x b M := h.keep fun q hq => hg.block q (h.ofS q hq) (fun e => hr q e.symm hq)
theorem HbX.but (h : HbX TH TL C S w b M) (hb : But D w x) (ha : ∀ q, S q → D q → False) : HbX TH TL C S x b M := h.keep fun q hq => hb.block q (h.ofS q hq) (fun hd => ha q hq hd)
theorem HbQ.gr {row : Option Nat} (h : HbQ TH TL C q F S w b M) (hg : w.grownBy x row) (hr : ∀ k, row = some k → ¬ S k) : HbQ TH TL C q F S x b M := h.keep fun q hq => hg.block q (h.ofS q hq) (fun e => hr q e.symm hq)
theorem HbQ.below (h : HbQ TH TL C q F S w b M) (hb : Below w.heap.size w x) : HbQ TH TL C q F S x b M := h.gr (below_grown hb) (fun q e => nomatch e)
/-- Behind a call on one of its links. -/
theorem HbQ.turnQ {L' : LnT} (h : HbQ TH TL C q F S w b M) (hi : i < 4) (hq : q i = some N) (hL : LkO TL S' x N L') (hg : Grew (F i) S' w x) :
    ∃ (F2 : Nat → Nat → Prop) (S2 : Nat → Prop), HbQ TH TL C q F2 S2 x b (setM M i L') ∧ Grew S S2 w x ∧ ∀ k, S2 k → S k ∨ S' k := by
  have hbF : ∀ k, F i k → k ≠ b := fun k hk => h.off i k hi hk
  have hS' : ∀ k, k < w.heap.size → S' k → F i k := fun k hl hk => by
    rcases hg.sub k hk with h | h
    · exact h
    · omega
  have hlt : ∀ j k, j < 4 → F j k → k < w.heap.size := fun j k hj hk => h.ofS k ((h.fp k).2 (.inr ⟨j, hj, hk⟩))
  refine ⟨fun j => if j = i then S' else F j, fun k => k = b ∨ ∃ j, j < 4 ∧ (if j = i then S' k else F j k), ⟨?_, ?_, ?_, ?_, ?_⟩, ⟨?_, ?_⟩, ?_⟩
  · have h1 := h.blk
    have hl := h1.lt
    unfold Blk at h1 ⊢
    rw [hg.but.block b hl (fun hf => hbF b hf rfl)]; exact h1
  · intro j hj
    by_cases e : j = i
    · subst e
      refine .inr ⟨N, L', hq, by unfold setM; simp, ?_⟩
      simpa using hL
    · rcases h.one j hj with ⟨h1, h2, h3⟩ | ⟨N2, L2, h1, h2, h3⟩
      · exact .inl ⟨h1, by unfold setM; rw [if_neg e]; exact h2, by simpa [e] using h3⟩
      · refine .inr ⟨N2, L2, h1, by unfold setM; rw [if_neg e]; exact h2, ?_⟩
        have := h3.but hg.but (fun k hd hf => h.sep i j k hi hj (fun e2 => e e2.symm) hd hf)
        simpa [e] using this
  · intro j k m hj hk hne h1 h2
    by_cases e1 : j = i
    · subst e1
      have e2 : ¬ k = j := fun e => hne e.symm
      simp only [if_true, if_neg e2] at h1 h2
      exact h.sep j k m hj hk hne (hS' m (hlt k m hk h2) h1) h2
    · by_cases e2 : k = i
      · subst e2
        simp only [if_true, if_neg e1] at h1 h2
        exact h.sep j k m hj hk hne h1 (hS' m (hlt j m hj h1) h2)
      · simp only [if_neg e1, if_neg e2] at h1 h2
        exact h.sep j k m hj hk hne h1 h2
  · intro j k hj hk
    by_cases e : j = i
    · subst e
      simp only [if_true] at hk
      intro e2; subst e2
      exact hbF _ (hS' _ h.blk.lt hk) rfl
    · simp only [if_neg e] at hk
      exact h.off j k hj hk
  · intro k
    constructor
    · rintro (h1 | ⟨j, hj, h1⟩)
      · exact .inl h1
      · exact .inr ⟨j, hj, by by_cases e : j = i <;> simpa [e] using h1⟩
    · rintro (h1 | ⟨j, hj, h1⟩)
      · exact .inl h1
      · exact .inr ⟨j, hj, by by_cases e : j = i <;> simpa [e] using h1⟩
  · rintro k (h1 | ⟨j, hj, h1⟩)
    · exact .inl ((h.fp k).2 (.inl h1))
    · by_cases e : j = i
      · rw [if_pos e] at h1
        rcases hg.sub k h1 with h2 | h2
        · exact .inl ((h.fp k).2 (.inr ⟨i, hi, h2⟩))
        · exact .inr h2
      · rw [if_neg e] at h1
        exact .inl ((h.fp k).2 (.inr ⟨j, hj, h1⟩))
  · exact hg.but.mono fun k _ hk => (h.fp k).2 (.inr ⟨i, hi, hk⟩)
  · rintro k (h1 | ⟨j, hj, h1⟩)
    · exact .inl ((h.fp k).2 (.inl h1))
    · by_cases e : j = i
      · rw [if_pos e] at h1
        exact .inr h1
      · rw [if_neg e] at h1
        exact .inl ((h.fp k).2 (.inr ⟨j, hj, h1⟩))
theorem HbQ.turn {L' : LnT} (h : HbQ TH TL C q F S w b M) (hi : i < 4) (hq : q i = some N) (hL : LkO TL S' x N L') (hg : Grew (F i) S' w x) :
    ∃ S2 : Nat → Prop, HbX TH TL C S2 x b (setM M i L') ∧ Grew S S2 w x ∧ ∀ k, S2 k → S k ∨ S' k := by
  obtain ⟨F2, S2, h1, h2, h3⟩ := h.turnQ hi hq hL hg
  exact ⟨S2, ⟨q, F2, h1⟩, h2, h3⟩
theorem HbQ.no (h : HbQ TH TL C q F S w b M) (hq : atQ q n = none) : atM M n = none := by
  unfold atQ at hq; unfold atM
  split
  · rename_i hh
    rw [if_pos hh] at hq
    rcases h.one n.toNat (by omega) with ⟨h1, h2, h3⟩ | ⟨N, L, h1, h2, h3⟩
    · exact h2
    · rw [h1] at hq; cases hq
  · rfl
theorem HbQ.yes (h : HbQ TH TL C q F S w b M) (hq : atQ q n = some N) : ∃ (i : Nat) (L : LnT), n = (i : Int) ∧ n.toNat = i ∧ i < 4 ∧ q i = some N ∧ atM M n = some L ∧ LkO TL (F i) w N L := by
  unfold atQ at hq; unfold atM
  split at hq
  · rename_i hh
    rcases h.one n.toNat (by omega) with ⟨h1, h2, h3⟩ | ⟨N2, L, h1, h2, h3⟩
    · rw [h1] at hq; cases hq
    · rw [h1] at hq; cases hq
      exact ⟨n.toNat, L, by omega, rfl, by omega, h1, by rw [if_pos hh]; exact h2, h3⟩
  · cases hq
theorem Grew.from {z : World} (hb : Below w.heap.size w x) (h : Grew S S' x z) : Grew S S' w z := ⟨fun k hk => by
  rcases h.sub k hk with h1 | h1
  · exact .inl h1
  · exact .inr (Nat.le_trans hb.size h1), (But.of_below hb).trans h.but⟩
end
/-- The program's hub, the document's hub. -/
def HbP (S : Nat → Prop) (w : World) (b : Nat) (M : Nat → Option LnT) : Prop := HbX 129 102 hubC S w b M
def hubR (q : Nat → Option Nat) : Array Value := #[ptQ (q 0), ptQ (q 1), ptQ (q 2), ptQ (q 3)]
def HbR (S : Nat → Prop) (w : World) (b : Nat) (M : Nat → Option LnT) : Prop := HbX 166 74 hubR S w b M
def hSendT (M : Nat → Option LnT) (n : Int) (s : ByteArray) : Int × (Nat → Option LnT) := match atM M n with
  | none => (1, M)
  | some L => ((sendT L s).1, setM M n.toNat (sendT L s).2)
def hWaitT (M : Nat → Option LnT) (n : Int) : Int := match atM M n with
  | none => 0
  | some L => (L.q.length : Int)
def hInT (M : Nat → Option LnT) (n : Int) (s : ByteArray) : List ByteArray × Int × (Nat → Option LnT) := match atM M n with
  | none => ([], 1, M)
  | some L => if (rdSeg s).2 ≠ 0 then ([], (rdSeg s).2, M) else ((inT L (rdSeg s).1).1, (inT L (rdSeg s).1).2.1, setM M n.toNat (inT L (rdSeg s).1).2.2)

set_option maxRecDepth 100000 in
set_option maxHeartbeats 3200000 in
theorem hbOf_any (b : Nat) (q : Nat → Option Nat) (k : Int) (w : World) (h : Blk w b 129 (hubC q)) : Calls Try.prog 100 #[pt b 0, .int .i64 k] w fun e w' => e = .returned (ptQ (atQ q k)) ∧ Below w.heap.size w w' := by
  obtain ⟨N, hN⟩ : ∃ N, N = w.heap.size := ⟨_, rfl⟩
  have hk0 : (w.alloc (.cells #[.int .i64 k] 3)).cell? ⟨N, 0, none⟩ = some (.int .i64 k) := by rw [hN]; exact (Boxed.new w 3 (.int .i64 k)).cell
  have hB0 : Below w.heap.size w (w.alloc (.cells #[.int .i64 k] 3)) := (Below.refl _ w).alloc (Nat.le_refl _) _
  have HC := Lib.hid (h.kept (below_grown hB0) (by simp)); have HB0 := Lib.hid hB0; have HK := Lib.hid hk0; clear h hB0 hk0
  go_enter Try.func100, Try.ntmps100
  rw [hN] at HK
  go_wp2_with fail
  refine (hbFind_any b w.heap.size q k _ HC.out HK.out).mono ?_
  rintro e w1 ⟨rfl, rfl⟩
  go_wp2
  go_ret
  exact ⟨rfl, HB0.out⟩

set_option maxRecDepth 100000 in
set_option maxHeartbeats 3200000 in
theorem hbSend_any (S : Nat → Prop) (w : World) (b : Nat) (M : Nat → Option LnT) (n : Int) (t : ByteArray) (h : HbP S w b M) : Calls Try.prog 54 #[pt b 0, .int .i64 n, .string t] w fun e w' => ∃ S' : Nat → Prop, e = .returned (.int .i64 (hSendT M n t).1) ∧ HbP S' w' b (hSendT M n t).2 ∧ Grew S S' w w' := by
  obtain ⟨q, F, h⟩ := h
  have H := Lib.hid h; clear h
  go_enter Try.func54, Try.ntmps54
  go_wp2_with fail
  refine (hbZero_ok b q _ H.out.blk).mono ?_
  rintro e w1 ⟨rfl, rfl⟩
  go_wp2_with fail
  refine (hbOf_any b q n _ H.out.blk).mono ?_
  rintro e w1 ⟨rfl, hB⟩
  have HB := Lib.hid hB; clear hB
  have H1 := Lib.hid (H.out.below HB.out)
  cases hq : atQ q n with
  | none =>
    have hE : hSendT M n t = (1, M) := by unfold hSendT; rw [H.out.no hq]
    have HE := Lib.hid hE; clear hE
    unfold ptQ
    go_wp2
    go_ret
    rw [HE.out]
    exact ⟨S, rfl, ⟨q, F, H1.out⟩, fun k h => .inl h, But.of_below HB.out⟩
  | some N =>
    obtain ⟨i, L, hn, hi2, hi, hqi, hM, hL⟩ := H1.out.yes hq
    have hE : hSendT M n t = ((sendT L t).1, setM M i (sendT L t).2) := by unfold hSendT; rw [hM, hi2]
    have HE := Lib.hid hE; clear hE
    unfold ptQ
    clear hM hn hi2 hq
    have HL := Lib.hid hL; have HQ := Lib.hid hqi; clear hL hqi
    go_wp2_with fail
    refine (kSend (b := N) (L := L) (S := F i) _ t HL.out).mono ?_
    rintro e w2 ⟨S', rfl, h1, h2⟩
    have H2 := Lib.hid h1; have H3 := Lib.hid h2; clear h1 h2
    go_wp2
    go_ret
    rw [HE.out]
    obtain ⟨S2, h4, h5, -⟩ := H1.out.turn hi HQ.out H2.out H3.out
    exact ⟨S2, rfl, h4, h5.from HB.out⟩

set_option maxRecDepth 100000 in
set_option maxHeartbeats 3200000 in
theorem hbWaiting_any (S : Nat → Prop) (w : World) (b : Nat) (M : Nat → Option LnT) (n : Int) (h : HbP S w b M) : Calls Try.prog 61 #[pt b 0, .int .i64 n] w fun e w' => e = .returned (.int .i64 (hWaitT M n)) ∧ Below w.heap.size w w' := by
  obtain ⟨q, F, h⟩ := h
  have H := Lib.hid h; clear h
  go_enter Try.func61, Try.ntmps61
  go_wp2_with fail
  refine (hbZero_ok b q _ H.out.blk).mono ?_
  rintro e w1 ⟨rfl, rfl⟩
  go_wp2_with fail
  refine (hbOf_any b q n _ H.out.blk).mono ?_
  rintro e w1 ⟨rfl, hB⟩
  have HB := Lib.hid hB; clear hB
  have H1 := Lib.hid (H.out.below HB.out)
  cases hq : atQ q n with
  | none =>
    have hE : hWaitT M n = 0 := by unfold hWaitT; rw [H.out.no hq]
    have HE := Lib.hid hE; clear hE
    unfold ptQ
    go_wp2_with fail
    refine (zwaitL _ _ (.inl rfl)).mono ?_
    rintro e w2 ⟨rfl, rfl⟩
    go_wp2
    go_ret
    rw [HE.out]
    exact ⟨rfl, HB.out⟩
  | some N =>
    obtain ⟨i, L, hn, hi2, hi, hqi, hM, hL⟩ := H1.out.yes hq
    have hE : hWaitT M n = (L.q.length : Int) := by unfold hWaitT; rw [hM]
    have HE := Lib.hid hE; clear hE
    unfold ptQ
    clear hM hn hi2 hq
    have HL := Lib.hid hL; have HQ := Lib.hid hqi; clear hL hqi
    go_wp2_with fail
    refine (kWaiting (b := N) (L := L) (S := F i) _ HL.out).mono ?_
    rintro e w2 ⟨rfl, rfl⟩
    go_wp2
    go_ret
    rw [HE.out]
    exact ⟨rfl, HB.out⟩
end Go.Proofs.Ythmljllgfigebaa

/- Package hub: the program's In. Conditions: a text of at most 2^63 - 1 bytes. -/
namespace Go.Proofs.Ythmljllgfigebaa
open Go.RowKit Go.PlainAid
set_option linter.unusedVariables false

theorem below_trans' {w x y : World} (h : Below w.heap.size w x) (h2 : Below x.heap.size x y) : Below w.heap.size w y := h.trans (h2.mono h.size)

set_option maxRecDepth 100000 in
set_option maxHeartbeats 3200000 in
theorem hbIn_any (S : Nat → Prop) (w : World) (b : Nat) (M : Nat → Option LnT) (n : Int) (t : ByteArray) (hsz : t.size ≤ 9223372036854775807) (h : HbP S w b M) : Calls Try.prog 59 #[pt b 0, .int .i64 n, .string t] w fun e w' => ∃ (v : Value) (S' : Nat → Prop), e = .returned (.tuple #[v, .int .i64 (hInT M n t).2.1]) ∧ HbP S' w' b (hInT M n t).2.2 ∧ w'.ownsRow w.heap.size 9 1 v (hInT M n t).1.length ((hInT M n t).1.flatMap strE) ∧ (∀ i, v.ownBlock = some i → ¬ S' i) ∧ Grew S S' w w' := by
  obtain ⟨q, F, h⟩ := h
  have H := Lib.hid h; clear h
  go_enter Try.func59, Try.ntmps59
  go_wp2_with fail
  refine (hbZero_ok b q _ H.out.blk).mono ?_
  rintro e w1 ⟨rfl, rfl⟩
  go_wp2_with fail
  refine (hbOf_any b q n _ H.out.blk).mono ?_
  rintro e w1 ⟨rfl, hB⟩
  have HB := Lib.hid hB; clear hB
  have H1 := Lib.hid (H.out.below HB.out)
  cases hq : atQ q n with
  | none =>
    have hE : hInT M n t = ([], 1, M) := by unfold hInT; rw [H.out.no hq]
    have HE := Lib.hid hE; clear hE
    unfold ptQ
    go_wp2
    go_ret2
    rw [HE.out]
    exact ⟨_, S, rfl, ⟨q, F, H1.out⟩, World.ownsRow_nil _ _ _ _, fun i hi => by simp [Value.ownBlock] at hi, fun k h => .inl h, But.of_below HB.out⟩
  | some N =>
    obtain ⟨i, L, hn, hi2, hi, hqi, hM, hL⟩ := H1.out.yes hq
    unfold ptQ
    have HM := Lib.hid hM; have HI := Lib.hid hi2
    clear hM hn hi2 hq
    have HL := Lib.hid hL; have HQ := Lib.hid hqi; clear hL hqi
    go_wp2_with fail
    refine (lkOf_any t _ hsz).mono ?_
    rintro e w2 ⟨rfl, hB2⟩
    have HB2 := Lib.hid hB2; clear hB2
    by_cases h0 : (rdSeg t).2 = 0
    · have hE : hInT M n t = ((inT L (rdSeg t).1).1, (inT L (rdSeg t).1).2.1, setM M i (inT L (rdSeg t).1).2.2) := by unfold hInT; rw [HM.out, HI.out]; simp [h0]
      have HE := Lib.hid hE; clear hE
      rw [h0]
      go_wp2_with fail
      have hg : Hid (Below w1.heap.size w1 (w2.alloc (.cells #[.int .i64 (rdSeg t).1.boot, .int .i64 (rdSeg t).1.stream, .int .i64 (rdSeg t).1.seq, .int .i64 (rdSeg t).1.ab, .int .i64 (rdSeg t).1.ast, .int .i64 (rdSeg t).1.asq, .bool (rdSeg t).1.has, .string (rdSeg t).1.body] 61))) := Lib.hid (HB2.out.alloc HB2.out.size _)
      have H3 := Lib.hid (H1.out.below hg.out)
      refine (kIn (b := N) (L := L) (S := F i) _ (rdSeg t).1 (HL.out.gr (below_grown hg.out) (fun q e => nomatch e))).mono ?_
      rintro e w3 ⟨v, S', rfl, h1, h2, h3, h4⟩
      have H4 := Lib.hid h1; have H5 := Lib.hid h2; have H6 := Lib.hid h3; have H7 := Lib.hid h4; clear h1 h2 h3 h4
      go_wp2
      go_ret2
      rw [HE.out]
      obtain ⟨S2, h4, h5, h6⟩ := H3.out.turn hi HQ.out H4.out H7.out
      have hz : w.heap.size ≤ (w2.alloc (.cells #[.int .i64 (rdSeg t).1.boot, .int .i64 (rdSeg t).1.stream, .int .i64 (rdSeg t).1.seq, .int .i64 (rdSeg t).1.ab, .int .i64 (rdSeg t).1.ast, .int .i64 (rdSeg t).1.asq, .bool (rdSeg t).1.has, .string (rdSeg t).1.body] 61)).heap.size := Nat.le_trans HB.out.size hg.out.size
      refine ⟨v, S2, rfl, h4, own_lowL H5.out hz, fun k hk hs => ?_, h5.from (below_trans' HB.out hg.out)⟩
      rcases h6 k hs with h7 | h7
      · have := (H5.out.lt k hk).1
        have := H3.out.ofS k h7
        omega
      · exact H6.out k hk h7
    · have hE : hInT M n t = ([], (rdSeg t).2, M) := by unfold hInT; rw [HM.out]; simp [h0]
      have hd : ((rdSeg t).2 != 0) = true := by simpa using h0
      have HE := Lib.hid hE; clear hE
      go_wp2
      go_ret2
      rw [HE.out]
      have hg : Below w1.heap.size w1 (w2.alloc (.cells #[.int .i64 (rdSeg t).1.boot, .int .i64 (rdSeg t).1.stream, .int .i64 (rdSeg t).1.seq, .int .i64 (rdSeg t).1.ab, .int .i64 (rdSeg t).1.ast, .int .i64 (rdSeg t).1.asq, .bool (rdSeg t).1.has, .string (rdSeg t).1.body] 61)) := HB2.out.alloc HB2.out.size _
      exact ⟨_, S, rfl, ⟨q, F, H1.out.below hg⟩, World.ownsRow_nil _ _ _ _, fun i hi => by simp [Value.ownBlock] at hi, fun k h => .inl h, But.of_below (below_trans' HB.out hg)⟩
end Go.Proofs.Ythmljllgfigebaa

/- Package hub: the document's Has, Send, Waiting, In. Conditions: a text of at most 2^63 - 1 bytes. -/
namespace Go.Proofs.Ythmljllgfigebaa
open Go.RowKit Go.PlainAid
set_option linter.unusedVariables false

/-- Only draws lie between. -/
inductive DrH (W : World) : World → Prop
  | o : DrH W W
  | s {X : World} : DrH W X → DrH W X.drew
theorem DrH.grown {W X : World} (h : DrH W X) : W.grownBy X none := by
  induction h with
  | o => exact ⟨rfl, rfl, rfl, Nat.le_refl _, fun _ _ _ => rfl⟩
  | s _ ih => exact ⟨ih.os, ih.tape, ih.output, ih.size, ih.block⟩
theorem DrH.bel {W X : World} (h : DrH W X) : Below W.heap.size W X := ⟨h.grown.os, h.grown.tape, h.grown.output, h.grown.size, fun k hk => h.grown.block k hk (fun e => nomatch e)⟩

set_option maxRecDepth 100000 in
set_option maxHeartbeats 3200000 in
theorem rhHas_any (b : Nat) (q : Nat → Option Nat) (n : Int) (w : World) (h : Blk w b 166 (hubR q)) : Calls Try.prog 101 #[pt b 0, .int .i64 n] w fun e w' => e = .returned (.bool (atQ q n).isSome) ∧ w = w' := by
  have c0 : w.cell? ⟨b, 0, none⟩ = some (ptQ (q 0)) := h.cell (k := 0) rfl
  have c1 : w.cell? ⟨b, 1, none⟩ = some (ptQ (q 1)) := h.cell (k := 1) rfl
  have c2 : w.cell? ⟨b, 2, none⟩ = some (ptQ (q 2)) := h.cell (k := 2) rfl
  have c3 : w.cell? ⟨b, 3, none⟩ = some (ptQ (q 3)) := h.cell (k := 3) rfl
  clear h
  by_cases h0 : 0 ≤ n
  · by_cases h4 : n < 4
    · obtain rfl | rfl | rfl | rfl : n = 0 ∨ n = 1 ∨ n = 2 ∨ n = 3 := by omega
      · obtain hq | ⟨M, hq⟩ : q 0 = none ∨ ∃ M, q 0 = some M := by cases q 0 <;> simp
        · have hE : atQ q 0 = none := by rw [show (0 : Int) = ((0 : Nat) : Int) from rfl, atQ_in (by omega), hq]
          have HE := Lib.hid hE; clear hE
          rw [hq] at c0
          unfold ptQ at c0
          clear hq
          go_enter Try.func101, Try.ntmps101
          go_wp2
          go_ret
          exact ⟨by rw [HE.out]; rfl, rfl⟩
        · have hE : atQ q 0 = some M := by rw [show (0 : Int) = ((0 : Nat) : Int) from rfl, atQ_in (by omega), hq]
          have HE := Lib.hid hE; clear hE
          rw [hq] at c0
          unfold ptQ at c0
          clear hq
          go_enter Try.func101, Try.ntmps101
          go_wp2
          go_ret
          exact ⟨by rw [HE.out]; rfl, rfl⟩
      · obtain hq | ⟨M, hq⟩ : q 1 = none ∨ ∃ M, q 1 = some M := by cases q 1 <;> simp
        · have hE : atQ q 1 = none := by rw [show (1 : Int) = ((1 : Nat) : Int) from rfl, atQ_in (by omega), hq]
          have HE := Lib.hid hE; clear hE
          rw [hq] at c1
          unfold ptQ at c1
          clear hq
          go_enter Try.func101, Try.ntmps101
          go_wp2
          go_ret
          exact ⟨by rw [HE.out]; rfl, rfl⟩
        · have hE : atQ q 1 = some M := by rw [show (1 : Int) = ((1 : Nat) : Int) from rfl, atQ_in (by omega), hq]
          have HE := Lib.hid hE; clear hE
          rw [hq] at c1
          unfold ptQ at c1
          clear hq
          go_enter Try.func101, Try.ntmps101
          go_wp2
          go_ret
          exact ⟨by rw [HE.out]; rfl, rfl⟩
      · obtain hq | ⟨M, hq⟩ : q 2 = none ∨ ∃ M, q 2 = some M := by cases q 2 <;> simp
        · have hE : atQ q 2 = none := by rw [show (2 : Int) = ((2 : Nat) : Int) from rfl, atQ_in (by omega), hq]
          have HE := Lib.hid hE; clear hE
          rw [hq] at c2
          unfold ptQ at c2
          clear hq
          go_enter Try.func101, Try.ntmps101
          go_wp2
          go_ret
          exact ⟨by rw [HE.out]; rfl, rfl⟩
        · have hE : atQ q 2 = some M := by rw [show (2 : Int) = ((2 : Nat) : Int) from rfl, atQ_in (by omega), hq]
          have HE := Lib.hid hE; clear hE
          rw [hq] at c2
          unfold ptQ at c2
          clear hq
          go_enter Try.func101, Try.ntmps101
          go_wp2
          go_ret
          exact ⟨by rw [HE.out]; rfl, rfl⟩
      · obtain hq | ⟨M, hq⟩ : q 3 = none ∨ ∃ M, q 3 = some M := by cases q 3 <;> simp
        · have hE : atQ q 3 = none := by rw [show (3 : Int) = ((3 : Nat) : Int) from rfl, atQ_in (by omega), hq]
          have HE := Lib.hid hE; clear hE
          rw [hq] at c3
          unfold ptQ at c3
          clear hq
          go_enter Try.func101, Try.ntmps101
          go_wp2
          go_ret
          exact ⟨by rw [HE.out]; rfl, rfl⟩
        · have hE : atQ q 3 = some M := by rw [show (3 : Int) = ((3 : Nat) : Int) from rfl, atQ_in (by omega), hq]
          have HE := Lib.hid hE; clear hE
          rw [hq] at c3
          unfold ptQ at c3
          clear hq
          go_enter Try.func101, Try.ntmps101
          go_wp2
          go_ret
          exact ⟨by rw [HE.out]; rfl, rfl⟩
    · have hE : atQ q n = none := by unfold atQ; rw [if_neg (by omega)]
      have HE := Lib.hid hE; clear hE
      have d1 : decide (n ≥ 0) = true := decide_eq_true h0
      have d2 : decide (n < 4) = false := decide_eq_false h4
      go_enter Try.func101, Try.ntmps101
      go_wp2
      go_ret
      exact ⟨by rw [HE.out]; rfl, rfl⟩
  · have hE : atQ q n = none := by unfold atQ; rw [if_neg (by omega)]
    have HE := Lib.hid hE; clear hE
    have d1 : decide (n ≥ 0) = false := decide_eq_false (by omega)
    go_enter Try.func101, Try.ntmps101
    go_wp2
    go_ret
    exact ⟨by rw [HE.out]; rfl, rfl⟩

set_option maxRecDepth 100000 in
set_option maxHeartbeats 6400000 in
theorem rhSend_any (S : Nat → Prop) (w : World) (b : Nat) (M : Nat → Option LnT) (n : Int) (t : ByteArray) (h : HbR S w b M) : Calls Try.prog 55 #[pt b 0, .int .i64 n, .string t] w fun e w' => ∃ S' : Nat → Prop, e = .returned (.int .i64 (hSendT M n t).1) ∧ HbR S' w' b (hSendT M n t).2 ∧ Grew S S' w w' := by
  obtain ⟨q, F, h⟩ := h
  have H := Lib.hid h; clear h
  go_enter Try.func55, Try.ntmps55
  go_wp2_with fail
  refine (rhHas_any b q n _ H.out.blk).mono ?_
  rintro e w1 ⟨rfl, rfl⟩
  cases hq : atQ q n with
  | none =>
    have hE : hSendT M n t = (1, M) := by unfold hSendT; rw [H.out.no hq]
    have HE := Lib.hid hE; clear hE
    have hs : (none : Option Nat).isSome = false := rfl
    rw [hs]
    go_wp2
    go_ret
    rw [HE.out]
    exact ⟨S, rfl, ⟨q, F, H.out⟩, fun k h => .inl h, But.refl _ _⟩
  | some N =>
    obtain ⟨i, L, rfl, hi2, hi, hqi, hM, hL⟩ := H.out.yes hq
    have HM := Lib.hid hM; have HI := Lib.hid hi2; have HL := Lib.hid hL; have HQ := Lib.hid hqi
    have hs : (some N : Option Nat).isSome = true := rfl
    rw [hs]
    clear hM hi2 hL hqi hq hs
    have h4 : i = 0 ∨ i = 1 ∨ i = 2 ∨ i = 3 := by omega
    rcases h4 with rfl | rfl | rfl | rfl
    · have c : w.cell? ⟨b, 0, none⟩ = some (.pointer (some ⟨N, 0, none⟩)) := by
        have := H.out.blk.cell (k := 0) (v := ptQ (q 0)) rfl
        rw [this, HQ.out]; rfl
      have hE : hSendT M ((0 : Nat) : Int) t = ((sendT L t).1, setM M 0 (sendT L t).2) := by unfold hSendT; rw [HM.out, HI.out]
      have HE := Lib.hid hE; clear hE
      go_wp2_with fail
      obtain ⟨u, hLu⟩ := HL.out
      refine (rSend (b := N) (u := u) (L := L) (S := F 0) _ t hLu).mono ?_
      rintro e w2 ⟨u', S', rfl, h1, h2⟩
      have H2 := Lib.hid h1; have H3 := Lib.hid h2; clear h1 h2 hLu
      go_wp2
      go_ret
      rw [HE.out]
      obtain ⟨S2, h4, h5, -⟩ := H.out.turn (by omega) HQ.out ⟨u', H2.out⟩ H3.out
      exact ⟨S2, rfl, h4, h5⟩
    · have c : w.cell? ⟨b, 1, none⟩ = some (.pointer (some ⟨N, 0, none⟩)) := by
        have := H.out.blk.cell (k := 1) (v := ptQ (q 1)) rfl
        rw [this, HQ.out]; rfl
      have hE : hSendT M ((1 : Nat) : Int) t = ((sendT L t).1, setM M 1 (sendT L t).2) := by unfold hSendT; rw [HM.out, HI.out]
      have HE := Lib.hid hE; clear hE
      go_wp2_with fail
      obtain ⟨u, hLu⟩ := HL.out
      refine (rSend (b := N) (u := u) (L := L) (S := F 1) _ t hLu).mono ?_
      rintro e w2 ⟨u', S', rfl, h1, h2⟩
      have H2 := Lib.hid h1; have H3 := Lib.hid h2; clear h1 h2 hLu
      go_wp2
      go_ret
      rw [HE.out]
      obtain ⟨S2, h4, h5, -⟩ := H.out.turn (by omega) HQ.out ⟨u', H2.out⟩ H3.out
      exact ⟨S2, rfl, h4, h5⟩
    · have c : w.cell? ⟨b, 2, none⟩ = some (.pointer (some ⟨N, 0, none⟩)) := by
        have := H.out.blk.cell (k := 2) (v := ptQ (q 2)) rfl
        rw [this, HQ.out]; rfl
      have hE : hSendT M ((2 : Nat) : Int) t = ((sendT L t).1, setM M 2 (sendT L t).2) := by unfold hSendT; rw [HM.out, HI.out]
      have HE := Lib.hid hE; clear hE
      go_wp2_with fail
      obtain ⟨u, hLu⟩ := HL.out
      refine (rSend (b := N) (u := u) (L := L) (S := F 2) _ t hLu).mono ?_
      rintro e w2 ⟨u', S', rfl, h1, h2⟩
      have H2 := Lib.hid h1; have H3 := Lib.hid h2; clear h1 h2 hLu
      go_wp2
      go_ret
      rw [HE.out]
      obtain ⟨S2, h4, h5, -⟩ := H.out.turn (by omega) HQ.out ⟨u', H2.out⟩ H3.out
      exact ⟨S2, rfl, h4, h5⟩
    · have c : w.cell? ⟨b, 3, none⟩ = some (.pointer (some ⟨N, 0, none⟩)) := by
        have := H.out.blk.cell (k := 3) (v := ptQ (q 3)) rfl
        rw [this, HQ.out]; rfl
      have hE : hSendT M ((3 : Nat) : Int) t = ((sendT L t).1, setM M 3 (sendT L t).2) := by unfold hSendT; rw [HM.out, HI.out]
      have HE := Lib.hid hE; clear hE
      go_wp2_with fail
      obtain ⟨u, hLu⟩ := HL.out
      refine (rSend (b := N) (u := u) (L := L) (S := F 3) _ t hLu).mono ?_
      rintro e w2 ⟨u', S', rfl, h1, h2⟩
      have H2 := Lib.hid h1; have H3 := Lib.hid h2; clear h1 h2 hLu
      go_wp2
      go_ret
      rw [HE.out]
      obtain ⟨S2, h4, h5, -⟩ := H.out.turn (by omega) HQ.out ⟨u', H2.out⟩ H3.out
      exact ⟨S2, rfl, h4, h5⟩

set_option maxRecDepth 100000 in
set_option maxHeartbeats 6400000 in
theorem rhWaiting_any (S : Nat → Prop) (w : World) (b : Nat) (M : Nat → Option LnT) (n : Int) (h : HbR S w b M) : Calls Try.prog 62 #[pt b 0, .int .i64 n] w fun e w' => e = .returned (.int .i64 (hWaitT M n)) ∧ w = w' := by
  obtain ⟨q, F, h⟩ := h
  have H := Lib.hid h; clear h
  go_enter Try.func62, Try.ntmps62
  go_wp2_with fail
  refine (rhHas_any b q n _ H.out.blk).mono ?_
  rintro e w1 ⟨rfl, rfl⟩
  cases hq : atQ q n with
  | none =>
    have hE : hWaitT M n = 0 := by unfold hWaitT; rw [H.out.no hq]
    have HE := Lib.hid hE; clear hE
    have hs : (none : Option Nat).isSome = false := rfl
    rw [hs]
    go_wp2
    go_ret
    rw [HE.out]
    exact ⟨rfl, rfl⟩
  | some N =>
    obtain ⟨i, L, rfl, hi2, hi, hqi, hM, hL⟩ := H.out.yes hq
    have HM := Lib.hid hM; have HI := Lib.hid hi2; have HL := Lib.hid hL; have HQ := Lib.hid hqi
    have hs : (some N : Option Nat).isSome = true := rfl
    rw [hs]
    clear hM hi2 hL hqi hq hs
    have h4 : i = 0 ∨ i = 1 ∨ i = 2 ∨ i = 3 := by omega
    rcases h4 with rfl | rfl | rfl | rfl
    · have c : w.cell? ⟨b, 0, none⟩ = some (.pointer (some ⟨N, 0, none⟩)) := by
        have := H.out.blk.cell (k := 0) (v := ptQ (q 0)) rfl
        rw [this, HQ.out]; rfl
      have hE : hWaitT M ((0 : Nat) : Int) = (L.q.length : Int) := by unfold hWaitT; rw [HM.out]
      have HE := Lib.hid hE; clear hE
      obtain ⟨u, hLu⟩ := HL.out
      have c3 : w.cell? ⟨N, 3, none⟩ = some u := (LkU.blk hLu).cell (k := 3) rfl
      obtain ⟨ao, cap, rfl, -, -, -, -⟩ := LkU.sl hLu
      clear hLu
      go_wp2
      go_ret
      rw [HE.out]
      exact ⟨rfl, rfl⟩
    · have c : w.cell? ⟨b, 1, none⟩ = some (.pointer (some ⟨N, 0, none⟩)) := by
        have := H.out.blk.cell (k := 1) (v := ptQ (q 1)) rfl
        rw [this, HQ.out]; rfl
      have hE : hWaitT M ((1 : Nat) : Int) = (L.q.length : Int) := by unfold hWaitT; rw [HM.out]
      have HE := Lib.hid hE; clear hE
      obtain ⟨u, hLu⟩ := HL.out
      have c3 : w.cell? ⟨N, 3, none⟩ = some u := (LkU.blk hLu).cell (k := 3) rfl
      obtain ⟨ao, cap, rfl, -, -, -, -⟩ := LkU.sl hLu
      clear hLu
      go_wp2
      go_ret
      rw [HE.out]
      exact ⟨rfl, rfl⟩
    · have c : w.cell? ⟨b, 2, none⟩ = some (.pointer (some ⟨N, 0, none⟩)) := by
        have := H.out.blk.cell (k := 2) (v := ptQ (q 2)) rfl
        rw [this, HQ.out]; rfl
      have hE : hWaitT M ((2 : Nat) : Int) = (L.q.length : Int) := by unfold hWaitT; rw [HM.out]
      have HE := Lib.hid hE; clear hE
      obtain ⟨u, hLu⟩ := HL.out
      have c3 : w.cell? ⟨N, 3, none⟩ = some u := (LkU.blk hLu).cell (k := 3) rfl
      obtain ⟨ao, cap, rfl, -, -, -, -⟩ := LkU.sl hLu
      clear hLu
      go_wp2
      go_ret
      rw [HE.out]
      exact ⟨rfl, rfl⟩
    · have c : w.cell? ⟨b, 3, none⟩ = some (.pointer (some ⟨N, 0, none⟩)) := by
        have := H.out.blk.cell (k := 3) (v := ptQ (q 3)) rfl
        rw [this, HQ.out]; rfl
      have hE : hWaitT M ((3 : Nat) : Int) = (L.q.length : Int) := by unfold hWaitT; rw [HM.out]
      have HE := Lib.hid hE; clear hE
      obtain ⟨u, hLu⟩ := HL.out
      have c3 : w.cell? ⟨N, 3, none⟩ = some u := (LkU.blk hLu).cell (k := 3) rfl
      obtain ⟨ao, cap, rfl, -, -, -, -⟩ := LkU.sl hLu
      clear hLu
      go_wp2
      go_ret
      rw [HE.out]
      exact ⟨rfl, rfl⟩

set_option maxRecDepth 100000 in
set_option maxHeartbeats 6400000 in
theorem rhIn_any (S : Nat → Prop) (w : World) (b : Nat) (M : Nat → Option LnT) (n : Int) (t : ByteArray) (hsz : t.size ≤ 9223372036854775807) (h : HbR S w b M) : Calls Try.prog 60 #[pt b 0, .int .i64 n, .string t] w fun e w' => ∃ (v : Value) (S' : Nat → Prop), e = .returned (.tuple #[v, .int .i64 (hInT M n t).2.1]) ∧ HbR S' w' b (hInT M n t).2.2 ∧ w'.ownsRow w.heap.size 9 1 v (hInT M n t).1.length ((hInT M n t).1.flatMap strE) ∧ (∀ i, v.ownBlock = some i → ¬ S' i) ∧ Grew S S' w w' := by
  obtain ⟨q, F, h⟩ := h
  have H := Lib.hid h; clear h
  go_enter Try.func60, Try.ntmps60
  go_wp2_with fail
  refine (rhHas_any b q n _ H.out.blk).mono ?_
  rintro e w1 ⟨rfl, rfl⟩
  cases hq : atQ q n with
  | none =>
    have hE : hInT M n t = ([], 1, M) := by unfold hInT; rw [H.out.no hq]
    have HE := Lib.hid hE; clear hE
    have hs : (none : Option Nat).isSome = false := rfl
    rw [hs]
    go_wp2
    go_ret2
    rw [HE.out]
    exact ⟨_, S, rfl, ⟨q, F, H.out⟩, World.ownsRow_nil _ _ _ _, fun i hi => by simp [Value.ownBlock] at hi, fun k h => .inl h, But.refl _ _⟩
  | some N =>
    obtain ⟨i, L, rfl, hi2, hi, hqi, hM, hL⟩ := H.out.yes hq
    have HM := Lib.hid hM; have HI := Lib.hid hi2; have HL := Lib.hid hL; have HQ := Lib.hid hqi
    have hs : (some N : Option Nat).isSome = true := rfl
    rw [hs]
    clear hM hi2 hL hqi hq hs
    have h4 : i = 0 ∨ i = 1 ∨ i = 2 ∨ i = 3 := by omega
    rcases h4 with rfl | rfl | rfl | rfl
    · have c : w.cell? ⟨b, 0, none⟩ = some (.pointer (some ⟨N, 0, none⟩)) := by
        have := H.out.blk.cell (k := 0) (v := ptQ (q 0)) rfl
        rw [this, HQ.out]; rfl
      clear c
      go_wp2_with fail
      refine (rlOf_any t _ hsz).mono ?_
      rintro e w2 ⟨rfl, hB2⟩
      have HB2 := Lib.hid hB2; clear hB2
      have hg : Hid (Below w.heap.size w (w2.alloc (.cells #[.int .i64 (rdSeg t).1.boot, .int .i64 (rdSeg t).1.stream, .int .i64 (rdSeg t).1.seq, .int .i64 (rdSeg t).1.ab, .int .i64 (rdSeg t).1.ast, .int .i64 (rdSeg t).1.asq, .bool (rdSeg t).1.has, .string (rdSeg t).1.body] 61))) := Lib.hid (HB2.out.alloc HB2.out.size _)
      have H3 := Lib.hid (H.out.below hg.out)
      by_cases h0 : (rdSeg t).2 = 0
      · have hE : hInT M ((0 : Nat) : Int) t = ((inT L (rdSeg t).1).1, (inT L (rdSeg t).1).2.1, setM M 0 (inT L (rdSeg t).1).2.2) := by unfold hInT; rw [HM.out, HI.out]; simp [h0]
        have HE := Lib.hid hE; clear hE
        rw [h0]
        have c : (w2.alloc (.cells #[.int .i64 (rdSeg t).1.boot, .int .i64 (rdSeg t).1.stream, .int .i64 (rdSeg t).1.seq, .int .i64 (rdSeg t).1.ab, .int .i64 (rdSeg t).1.ast, .int .i64 (rdSeg t).1.asq, .bool (rdSeg t).1.has, .string (rdSeg t).1.body] 61)).cell? ⟨b, 0, none⟩ = some (.pointer (some ⟨N, 0, none⟩)) := by
          have := H3.out.blk.cell (k := 0) (v := ptQ (q 0)) rfl
          rw [this, HQ.out]; rfl
        go_wp2_with fail
        obtain ⟨W, hW⟩ : ∃ W, W = w2.alloc (.cells #[.int .i64 (rdSeg t).1.boot, .int .i64 (rdSeg t).1.stream, .int .i64 (rdSeg t).1.seq, .int .i64 (rdSeg t).1.ab, .int .i64 (rdSeg t).1.ast, .int .i64 (rdSeg t).1.asq, .bool (rdSeg t).1.has, .string (rdSeg t).1.body] 61) := ⟨_, rfl⟩
        have hblk : Blk W w2.heap.size 61 #[.int .i64 (rdSeg t).1.boot, .int .i64 (rdSeg t).1.stream, .int .i64 (rdSeg t).1.seq, .int .i64 (rdSeg t).1.ab, .int .i64 (rdSeg t).1.ast, .int .i64 (rdSeg t).1.asq, .bool (rdSeg t).1.has, .string (rdSeg t).1.body] := by rw [hW]; exact World.alloc_heap_new w2 _
        have d0 := hblk.cell (k := 0) rfl; have d1 := hblk.cell (k := 1) rfl; have d2 := hblk.cell (k := 2) rfl; have d3 := hblk.cell (k := 3) rfl; have d4 := hblk.cell (k := 4) rfl; have d5 := hblk.cell (k := 5) rfl; have d6 := hblk.cell (k := 6) rfl; have d7 := hblk.cell (k := 7) rfl
        rw [← hW] at hg H3 c
        have HW : Hid (∀ X, DrH W X → Calls Try.prog 40 #[pt N 0, segV (rdSeg t).1] X fun e w' => ∃ (u' v : Value) (S' : Nat → Prop), e = .returned (.tuple #[v, .int .i64 (inT L (rdSeg t).1).2.1]) ∧ LkR S' w' N u' (inT L (rdSeg t).1).2.2 ∧ w'.ownsRow W.heap.size 9 1 v (inT L (rdSeg t).1).1.length ((inT L (rdSeg t).1).1.flatMap strE) ∧ (∀ i, v.ownBlock = some i → ¬ S' i) ∧ Grew (F 0) S' W w') := Lib.hid fun X hX => by
          obtain ⟨u, hLu⟩ := (HL.out.gr (below_grown hg.out) (fun q e => nomatch e)).gr hX.grown (fun q e => nomatch e)
          refine (rIn (b := N) (u := u) (L := L) (S := F 0) X (rdSeg t).1 hLu).mono ?_
          rintro e w' ⟨u', v, S', h1, h2, h3, h4, h5⟩
          exact ⟨u', v, S', h1, h2, own_lowL h3 hX.grown.size, h4, h5.from hX.bel⟩
        have HE := HE
        clear hblk
        rw [← hW]
        unfold segV at HW
        clear hW
        go_region_law (first | (go_simp; go_at_call 40; refine Calls.mono (HW.out _ (by repeat (first | exact DrH.o | refine DrH.s ?_))) ?_; rintro e w3 ⟨u', v, S', rfl, h1, h2, h3, h4⟩; have H4 := Lib.hid h1; have H5 := Lib.hid h2; have H6 := Lib.hid h3; have H7 := Lib.hid h4; clear h1 h2 h3 h4))
        all_goals
          go_wp2
          go_ret2
          rw [HE.out]
          obtain ⟨S2, h4, h5, h6⟩ := H3.out.turn (by omega) HQ.out ⟨u', H4.out⟩ H7.out
          refine ⟨v, S2, rfl, h4, own_lowL H5.out hg.out.size, fun k hk hs => ?_, h5.from hg.out⟩
          rcases h6 k hs with h7 | h7
          · have := (H5.out.lt k hk).1
            have := H3.out.ofS k h7
            omega
          · exact H6.out k hk h7
      · have hE : hInT M ((0 : Nat) : Int) t = ([], (rdSeg t).2, M) := by unfold hInT; rw [HM.out]; simp [h0]
        have hd : ((rdSeg t).2 != 0) = true := by simpa using h0
        have HE := Lib.hid hE; clear hE
        go_wp2
        go_ret2
        rw [HE.out]
        exact ⟨_, S, rfl, ⟨q, F, H3.out⟩, World.ownsRow_nil _ _ _ _, fun i hi => by simp [Value.ownBlock] at hi, fun k h => .inl h, But.of_below hg.out⟩
    · have c : w.cell? ⟨b, 1, none⟩ = some (.pointer (some ⟨N, 0, none⟩)) := by
        have := H.out.blk.cell (k := 1) (v := ptQ (q 1)) rfl
        rw [this, HQ.out]; rfl
      clear c
      go_wp2_with fail
      refine (rlOf_any t _ hsz).mono ?_
      rintro e w2 ⟨rfl, hB2⟩
      have HB2 := Lib.hid hB2; clear hB2
      have hg : Hid (Below w.heap.size w (w2.alloc (.cells #[.int .i64 (rdSeg t).1.boot, .int .i64 (rdSeg t).1.stream, .int .i64 (rdSeg t).1.seq, .int .i64 (rdSeg t).1.ab, .int .i64 (rdSeg t).1.ast, .int .i64 (rdSeg t).1.asq, .bool (rdSeg t).1.has, .string (rdSeg t).1.body] 61))) := Lib.hid (HB2.out.alloc HB2.out.size _)
      have H3 := Lib.hid (H.out.below hg.out)
      by_cases h0 : (rdSeg t).2 = 0
      · have hE : hInT M ((1 : Nat) : Int) t = ((inT L (rdSeg t).1).1, (inT L (rdSeg t).1).2.1, setM M 1 (inT L (rdSeg t).1).2.2) := by unfold hInT; rw [HM.out, HI.out]; simp [h0]
        have HE := Lib.hid hE; clear hE
        rw [h0]
        have c : (w2.alloc (.cells #[.int .i64 (rdSeg t).1.boot, .int .i64 (rdSeg t).1.stream, .int .i64 (rdSeg t).1.seq, .int .i64 (rdSeg t).1.ab, .int .i64 (rdSeg t).1.ast, .int .i64 (rdSeg t).1.asq, .bool (rdSeg t).1.has, .string (rdSeg t).1.body] 61)).cell? ⟨b, 1, none⟩ = some (.pointer (some ⟨N, 0, none⟩)) := by
          have := H3.out.blk.cell (k := 1) (v := ptQ (q 1)) rfl
          rw [this, HQ.out]; rfl
        go_wp2_with fail
        obtain ⟨W, hW⟩ : ∃ W, W = w2.alloc (.cells #[.int .i64 (rdSeg t).1.boot, .int .i64 (rdSeg t).1.stream, .int .i64 (rdSeg t).1.seq, .int .i64 (rdSeg t).1.ab, .int .i64 (rdSeg t).1.ast, .int .i64 (rdSeg t).1.asq, .bool (rdSeg t).1.has, .string (rdSeg t).1.body] 61) := ⟨_, rfl⟩
        have hblk : Blk W w2.heap.size 61 #[.int .i64 (rdSeg t).1.boot, .int .i64 (rdSeg t).1.stream, .int .i64 (rdSeg t).1.seq, .int .i64 (rdSeg t).1.ab, .int .i64 (rdSeg t).1.ast, .int .i64 (rdSeg t).1.asq, .bool (rdSeg t).1.has, .string (rdSeg t).1.body] := by rw [hW]; exact World.alloc_heap_new w2 _
        have d0 := hblk.cell (k := 0) rfl; have d1 := hblk.cell (k := 1) rfl; have d2 := hblk.cell (k := 2) rfl; have d3 := hblk.cell (k := 3) rfl; have d4 := hblk.cell (k := 4) rfl; have d5 := hblk.cell (k := 5) rfl; have d6 := hblk.cell (k := 6) rfl; have d7 := hblk.cell (k := 7) rfl
        rw [← hW] at hg H3 c
        have HW : Hid (∀ X, DrH W X → Calls Try.prog 40 #[pt N 0, segV (rdSeg t).1] X fun e w' => ∃ (u' v : Value) (S' : Nat → Prop), e = .returned (.tuple #[v, .int .i64 (inT L (rdSeg t).1).2.1]) ∧ LkR S' w' N u' (inT L (rdSeg t).1).2.2 ∧ w'.ownsRow W.heap.size 9 1 v (inT L (rdSeg t).1).1.length ((inT L (rdSeg t).1).1.flatMap strE) ∧ (∀ i, v.ownBlock = some i → ¬ S' i) ∧ Grew (F 1) S' W w') := Lib.hid fun X hX => by
          obtain ⟨u, hLu⟩ := (HL.out.gr (below_grown hg.out) (fun q e => nomatch e)).gr hX.grown (fun q e => nomatch e)
          refine (rIn (b := N) (u := u) (L := L) (S := F 1) X (rdSeg t).1 hLu).mono ?_
          rintro e w' ⟨u', v, S', h1, h2, h3, h4, h5⟩
          exact ⟨u', v, S', h1, h2, own_lowL h3 hX.grown.size, h4, h5.from hX.bel⟩
        have HE := HE
        clear hblk
        rw [← hW]
        unfold segV at HW
        clear hW
        go_region_law (first | (go_simp; go_at_call 40; refine Calls.mono (HW.out _ (by repeat (first | exact DrH.o | refine DrH.s ?_))) ?_; rintro e w3 ⟨u', v, S', rfl, h1, h2, h3, h4⟩; have H4 := Lib.hid h1; have H5 := Lib.hid h2; have H6 := Lib.hid h3; have H7 := Lib.hid h4; clear h1 h2 h3 h4))
        all_goals
          go_wp2
          go_ret2
          rw [HE.out]
          obtain ⟨S2, h4, h5, h6⟩ := H3.out.turn (by omega) HQ.out ⟨u', H4.out⟩ H7.out
          refine ⟨v, S2, rfl, h4, own_lowL H5.out hg.out.size, fun k hk hs => ?_, h5.from hg.out⟩
          rcases h6 k hs with h7 | h7
          · have := (H5.out.lt k hk).1
            have := H3.out.ofS k h7
            omega
          · exact H6.out k hk h7
      · have hE : hInT M ((1 : Nat) : Int) t = ([], (rdSeg t).2, M) := by unfold hInT; rw [HM.out]; simp [h0]
        have hd : ((rdSeg t).2 != 0) = true := by simpa using h0
        have HE := Lib.hid hE; clear hE
        go_wp2
        go_ret2
        rw [HE.out]
        exact ⟨_, S, rfl, ⟨q, F, H3.out⟩, World.ownsRow_nil _ _ _ _, fun i hi => by simp [Value.ownBlock] at hi, fun k h => .inl h, But.of_below hg.out⟩
    · have c : w.cell? ⟨b, 2, none⟩ = some (.pointer (some ⟨N, 0, none⟩)) := by
        have := H.out.blk.cell (k := 2) (v := ptQ (q 2)) rfl
        rw [this, HQ.out]; rfl
      clear c
      go_wp2_with fail
      refine (rlOf_any t _ hsz).mono ?_
      rintro e w2 ⟨rfl, hB2⟩
      have HB2 := Lib.hid hB2; clear hB2
      have hg : Hid (Below w.heap.size w (w2.alloc (.cells #[.int .i64 (rdSeg t).1.boot, .int .i64 (rdSeg t).1.stream, .int .i64 (rdSeg t).1.seq, .int .i64 (rdSeg t).1.ab, .int .i64 (rdSeg t).1.ast, .int .i64 (rdSeg t).1.asq, .bool (rdSeg t).1.has, .string (rdSeg t).1.body] 61))) := Lib.hid (HB2.out.alloc HB2.out.size _)
      have H3 := Lib.hid (H.out.below hg.out)
      by_cases h0 : (rdSeg t).2 = 0
      · have hE : hInT M ((2 : Nat) : Int) t = ((inT L (rdSeg t).1).1, (inT L (rdSeg t).1).2.1, setM M 2 (inT L (rdSeg t).1).2.2) := by unfold hInT; rw [HM.out, HI.out]; simp [h0]
        have HE := Lib.hid hE; clear hE
        rw [h0]
        have c : (w2.alloc (.cells #[.int .i64 (rdSeg t).1.boot, .int .i64 (rdSeg t).1.stream, .int .i64 (rdSeg t).1.seq, .int .i64 (rdSeg t).1.ab, .int .i64 (rdSeg t).1.ast, .int .i64 (rdSeg t).1.asq, .bool (rdSeg t).1.has, .string (rdSeg t).1.body] 61)).cell? ⟨b, 2, none⟩ = some (.pointer (some ⟨N, 0, none⟩)) := by
          have := H3.out.blk.cell (k := 2) (v := ptQ (q 2)) rfl
          rw [this, HQ.out]; rfl
        go_wp2_with fail
        obtain ⟨W, hW⟩ : ∃ W, W = w2.alloc (.cells #[.int .i64 (rdSeg t).1.boot, .int .i64 (rdSeg t).1.stream, .int .i64 (rdSeg t).1.seq, .int .i64 (rdSeg t).1.ab, .int .i64 (rdSeg t).1.ast, .int .i64 (rdSeg t).1.asq, .bool (rdSeg t).1.has, .string (rdSeg t).1.body] 61) := ⟨_, rfl⟩
        have hblk : Blk W w2.heap.size 61 #[.int .i64 (rdSeg t).1.boot, .int .i64 (rdSeg t).1.stream, .int .i64 (rdSeg t).1.seq, .int .i64 (rdSeg t).1.ab, .int .i64 (rdSeg t).1.ast, .int .i64 (rdSeg t).1.asq, .bool (rdSeg t).1.has, .string (rdSeg t).1.body] := by rw [hW]; exact World.alloc_heap_new w2 _
        have d0 := hblk.cell (k := 0) rfl; have d1 := hblk.cell (k := 1) rfl; have d2 := hblk.cell (k := 2) rfl; have d3 := hblk.cell (k := 3) rfl; have d4 := hblk.cell (k := 4) rfl; have d5 := hblk.cell (k := 5) rfl; have d6 := hblk.cell (k := 6) rfl; have d7 := hblk.cell (k := 7) rfl
        rw [← hW] at hg H3 c
        have HW : Hid (∀ X, DrH W X → Calls Try.prog 40 #[pt N 0, segV (rdSeg t).1] X fun e w' => ∃ (u' v : Value) (S' : Nat → Prop), e = .returned (.tuple #[v, .int .i64 (inT L (rdSeg t).1).2.1]) ∧ LkR S' w' N u' (inT L (rdSeg t).1).2.2 ∧ w'.ownsRow W.heap.size 9 1 v (inT L (rdSeg t).1).1.length ((inT L (rdSeg t).1).1.flatMap strE) ∧ (∀ i, v.ownBlock = some i → ¬ S' i) ∧ Grew (F 2) S' W w') := Lib.hid fun X hX => by
          obtain ⟨u, hLu⟩ := (HL.out.gr (below_grown hg.out) (fun q e => nomatch e)).gr hX.grown (fun q e => nomatch e)
          refine (rIn (b := N) (u := u) (L := L) (S := F 2) X (rdSeg t).1 hLu).mono ?_
          rintro e w' ⟨u', v, S', h1, h2, h3, h4, h5⟩
          exact ⟨u', v, S', h1, h2, own_lowL h3 hX.grown.size, h4, h5.from hX.bel⟩
        have HE := HE
        clear hblk
        rw [← hW]
        unfold segV at HW
        clear hW
        go_region_law (first | (go_simp; go_at_call 40; refine Calls.mono (HW.out _ (by repeat (first | exact DrH.o | refine DrH.s ?_))) ?_; rintro e w3 ⟨u', v, S', rfl, h1, h2, h3, h4⟩; have H4 := Lib.hid h1; have H5 := Lib.hid h2; have H6 := Lib.hid h3; have H7 := Lib.hid h4; clear h1 h2 h3 h4))
        all_goals
          go_wp2
          go_ret2
          rw [HE.out]
          obtain ⟨S2, h4, h5, h6⟩ := H3.out.turn (by omega) HQ.out ⟨u', H4.out⟩ H7.out
          refine ⟨v, S2, rfl, h4, own_lowL H5.out hg.out.size, fun k hk hs => ?_, h5.from hg.out⟩
          rcases h6 k hs with h7 | h7
          · have := (H5.out.lt k hk).1
            have := H3.out.ofS k h7
            omega
          · exact H6.out k hk h7
      · have hE : hInT M ((2 : Nat) : Int) t = ([], (rdSeg t).2, M) := by unfold hInT; rw [HM.out]; simp [h0]
        have hd : ((rdSeg t).2 != 0) = true := by simpa using h0
        have HE := Lib.hid hE; clear hE
        go_wp2
        go_ret2
        rw [HE.out]
        exact ⟨_, S, rfl, ⟨q, F, H3.out⟩, World.ownsRow_nil _ _ _ _, fun i hi => by simp [Value.ownBlock] at hi, fun k h => .inl h, But.of_below hg.out⟩
    · have c : w.cell? ⟨b, 3, none⟩ = some (.pointer (some ⟨N, 0, none⟩)) := by
        have := H.out.blk.cell (k := 3) (v := ptQ (q 3)) rfl
        rw [this, HQ.out]; rfl
      clear c
      go_wp2_with fail
      refine (rlOf_any t _ hsz).mono ?_
      rintro e w2 ⟨rfl, hB2⟩
      have HB2 := Lib.hid hB2; clear hB2
      have hg : Hid (Below w.heap.size w (w2.alloc (.cells #[.int .i64 (rdSeg t).1.boot, .int .i64 (rdSeg t).1.stream, .int .i64 (rdSeg t).1.seq, .int .i64 (rdSeg t).1.ab, .int .i64 (rdSeg t).1.ast, .int .i64 (rdSeg t).1.asq, .bool (rdSeg t).1.has, .string (rdSeg t).1.body] 61))) := Lib.hid (HB2.out.alloc HB2.out.size _)
      have H3 := Lib.hid (H.out.below hg.out)
      by_cases h0 : (rdSeg t).2 = 0
      · have hE : hInT M ((3 : Nat) : Int) t = ((inT L (rdSeg t).1).1, (inT L (rdSeg t).1).2.1, setM M 3 (inT L (rdSeg t).1).2.2) := by unfold hInT; rw [HM.out, HI.out]; simp [h0]
        have HE := Lib.hid hE; clear hE
        rw [h0]
        have c : (w2.alloc (.cells #[.int .i64 (rdSeg t).1.boot, .int .i64 (rdSeg t).1.stream, .int .i64 (rdSeg t).1.seq, .int .i64 (rdSeg t).1.ab, .int .i64 (rdSeg t).1.ast, .int .i64 (rdSeg t).1.asq, .bool (rdSeg t).1.has, .string (rdSeg t).1.body] 61)).cell? ⟨b, 3, none⟩ = some (.pointer (some ⟨N, 0, none⟩)) := by
          have := H3.out.blk.cell (k := 3) (v := ptQ (q 3)) rfl
          rw [this, HQ.out]; rfl
        go_wp2_with fail
        obtain ⟨W, hW⟩ : ∃ W, W = w2.alloc (.cells #[.int .i64 (rdSeg t).1.boot, .int .i64 (rdSeg t).1.stream, .int .i64 (rdSeg t).1.seq, .int .i64 (rdSeg t).1.ab, .int .i64 (rdSeg t).1.ast, .int .i64 (rdSeg t).1.asq, .bool (rdSeg t).1.has, .string (rdSeg t).1.body] 61) := ⟨_, rfl⟩
        have hblk : Blk W w2.heap.size 61 #[.int .i64 (rdSeg t).1.boot, .int .i64 (rdSeg t).1.stream, .int .i64 (rdSeg t).1.seq, .int .i64 (rdSeg t).1.ab, .int .i64 (rdSeg t).1.ast, .int .i64 (rdSeg t).1.asq, .bool (rdSeg t).1.has, .string (rdSeg t).1.body] := by rw [hW]; exact World.alloc_heap_new w2 _
        have d0 := hblk.cell (k := 0) rfl; have d1 := hblk.cell (k := 1) rfl; have d2 := hblk.cell (k := 2) rfl; have d3 := hblk.cell (k := 3) rfl; have d4 := hblk.cell (k := 4) rfl; have d5 := hblk.cell (k := 5) rfl; have d6 := hblk.cell (k := 6) rfl; have d7 := hblk.cell (k := 7) rfl
        rw [← hW] at hg H3 c
        have HW : Hid (∀ X, DrH W X → Calls Try.prog 40 #[pt N 0, segV (rdSeg t).1] X fun e w' => ∃ (u' v : Value) (S' : Nat → Prop), e = .returned (.tuple #[v, .int .i64 (inT L (rdSeg t).1).2.1]) ∧ LkR S' w' N u' (inT L (rdSeg t).1).2.2 ∧ w'.ownsRow W.heap.size 9 1 v (inT L (rdSeg t).1).1.length ((inT L (rdSeg t).1).1.flatMap strE) ∧ (∀ i, v.ownBlock = some i → ¬ S' i) ∧ Grew (F 3) S' W w') := Lib.hid fun X hX => by
          obtain ⟨u, hLu⟩ := (HL.out.gr (below_grown hg.out) (fun q e => nomatch e)).gr hX.grown (fun q e => nomatch e)
          refine (rIn (b := N) (u := u) (L := L) (S := F 3) X (rdSeg t).1 hLu).mono ?_
          rintro e w' ⟨u', v, S', h1, h2, h3, h4, h5⟩
          exact ⟨u', v, S', h1, h2, own_lowL h3 hX.grown.size, h4, h5.from hX.bel⟩
        have HE := HE
        clear hblk
        rw [← hW]
        unfold segV at HW
        clear hW
        go_region_law (first | (go_simp; go_at_call 40; refine Calls.mono (HW.out _ (by repeat (first | exact DrH.o | refine DrH.s ?_))) ?_; rintro e w3 ⟨u', v, S', rfl, h1, h2, h3, h4⟩; have H4 := Lib.hid h1; have H5 := Lib.hid h2; have H6 := Lib.hid h3; have H7 := Lib.hid h4; clear h1 h2 h3 h4))
        all_goals
          go_wp2
          go_ret2
          rw [HE.out]
          obtain ⟨S2, h4, h5, h6⟩ := H3.out.turn (by omega) HQ.out ⟨u', H4.out⟩ H7.out
          refine ⟨v, S2, rfl, h4, own_lowL H5.out hg.out.size, fun k hk hs => ?_, h5.from hg.out⟩
          rcases h6 k hs with h7 | h7
          · have := (H5.out.lt k hk).1
            have := H3.out.ofS k h7
            omega
          · exact H6.out k hk h7
      · have hE : hInT M ((3 : Nat) : Int) t = ([], (rdSeg t).2, M) := by unfold hInT; rw [HM.out]; simp [h0]
        have hd : ((rdSeg t).2 != 0) = true := by simpa using h0
        have HE := Lib.hid hE; clear hE
        go_wp2
        go_ret2
        rw [HE.out]
        exact ⟨_, S, rfl, ⟨q, F, H3.out⟩, World.ownsRow_nil _ _ _ _, fun i hi => by simp [Value.ownBlock] at hi, fun k h => .inl h, But.of_below hg.out⟩

end Go.Proofs.Ythmljllgfigebaa

/- Package hub: New of both. Conditions: none. -/
namespace Go.Proofs.Ythmljllgfigebaa
open Go.RowKit Go.PlainAid
set_option linter.unusedVariables false

def updQ (q : Nat → Option Nat) (i N : Nat) : Nat → Option Nat := fun j => if j = i then some N else q j
/-- What a hub holds that was made up to i. -/
def newM (self boot : Int) (i : Nat) : Nat → Option LnT := fun j => if j < i ∧ (j : Int) ≠ self then some (newLn boot) else none
theorem newM_skip {self boot : Int} {i : Nat} (h : (i : Int) = self) : newM self boot (i + 1) = newM self boot i := by
  funext j; unfold newM
  by_cases h1 : j < i ∧ (j : Int) ≠ self
  · rw [if_pos h1, if_pos ⟨by omega, h1.2⟩]
  · rw [if_neg h1, if_neg (fun h2 => h1 ⟨by omega, h2.2⟩)]
theorem newM_put {self boot : Int} {i : Nat} (h : (i : Int) ≠ self) : newM self boot (i + 1) = setM (newM self boot i) i (newLn boot) := by
  funext j; unfold newM setM
  by_cases e : j = i
  · subst e; rw [if_pos ⟨by omega, h⟩, if_pos rfl]
  · rw [if_neg e]
    show _ = if j < i ∧ (j : Int) ≠ self then some (newLn boot) else none
    by_cases h1 : j < i ∧ (j : Int) ≠ self
    · rw [if_pos h1, if_pos ⟨by omega, h1.2⟩]
    · rw [if_neg h1, if_neg (fun h2 => h1 ⟨by omega, h2.2⟩)]
theorem newM_zero {self boot : Int} : newM self boot 0 = fun _ => none := by
  funext j; unfold newM; rw [if_neg (fun h => absurd h.1 (by omega))]
section
variable {TH TL : TypeId} {C : (Nat → Option Nat) → Array Value} {q : Nat → Option Nat} {F : Nat → Nat → Prop} {S S' D : Nat → Prop} {w x : World} {b N i : Nat} {M : Nat → Option LnT} {L : LnT} {n : Int}
theorem HbQ.put {off : Nat} (hsz : off + i < (C q).size) (hC : (C q).set (off + i) (pt N 0) hsz = C (updQ q i N)) (h : HbQ TH TL C q F S w b M) (hi : i < 4) (hb : Below w.heap.size w x) (hL : LkO TL S' x N L) (hlo : ∀ k, S' k → w.heap.size ≤ k) :
    HbQ TH TL C (updQ q i N) (fun j => if j = i then S' else F j) (fun k => k = b ∨ ∃ j, j < 4 ∧ (if j = i then S' k else F j k)) (x.setCell ⟨b, off + i, none⟩ (pt N 0)) b (setM M i L) := by
  have hx := h.below hb
  have hlt : ∀ j k, j < 4 → F j k → k < w.heap.size := fun j k hj hk => h.ofS k ((h.fp k).2 (.inr ⟨j, hj, hk⟩))
  have hbl := h.blk.lt
  have hbu : But (fun k => k = b) x (x.setCell ⟨b, off + i, none⟩ (pt N 0)) := (But.refl _ x).setL (S := fun k => k = b) rfl _
  refine ⟨?_, ?_, ?_, ?_, ?_⟩
  · rw [← hC]
    exact blk_setL hx.blk (off + i) hsz _
  · intro j hj
    by_cases e : j = i
    · subst e
      refine .inr ⟨N, L, by unfold updQ; simp, by unfold setM; simp, ?_⟩
      have := hL.but hbu (fun k h1 h2 => by have := hlo k h2; omega)
      simpa using this
    · rcases hx.one j hj with ⟨h1, h2, h3⟩ | ⟨N2, L2, h1, h2, h3⟩
      · exact .inl ⟨by unfold updQ; rw [if_neg e]; exact h1, by unfold setM; rw [if_neg e]; exact h2, by simpa [e] using h3⟩
      · refine .inr ⟨N2, L2, by unfold updQ; rw [if_neg e]; exact h1, by unfold setM; rw [if_neg e]; exact h2, ?_⟩
        have := h3.but hbu (fun k h1 h2 => h.off j k hj h2 h1)
        simpa [e] using this
  · intro j k m hj hk hne h1 h2
    by_cases e1 : j = i
    · subst e1
      have e2 : ¬ k = j := fun e => hne e.symm
      simp only [if_true, if_neg e2] at h1 h2
      have := hlo m h1; have := hlt k m hk h2; omega
    · by_cases e2 : k = i
      · subst e2
        simp only [if_true, if_neg e1] at h1 h2
        have := hlo m h2; have := hlt j m hj h1; omega
      · simp only [if_neg e1, if_neg e2] at h1 h2
        exact h.sep j k m hj hk hne h1 h2
  · intro j k hj hk
    by_cases e : j = i
    · subst e
      simp only [if_true] at hk
      have := hlo k hk; omega
    · simp only [if_neg e] at hk
      exact h.off j k hj hk
  · intro k
    constructor
    · rintro (h1 | ⟨j, hj, h1⟩)
      · exact .inl h1
      · exact .inr ⟨j, hj, by by_cases e : j = i <;> simpa [e] using h1⟩
    · rintro (h1 | ⟨j, hj, h1⟩)
      · exact .inl h1
      · exact .inr ⟨j, hj, by by_cases e : j = i <;> simpa [e] using h1⟩
theorem HbQ.start (h : Blk w b TH (C (fun _ => none))) : HbQ TH TL C (fun _ => none) (fun _ _ => False) (fun k => k = b) w b (fun _ => none) :=
  ⟨h, fun i hi => .inl ⟨rfl, rfl, fun k h => h⟩, fun i j k _ _ _ h _ => h.elim, fun i k _ h => h.elim, fun k => by simp⟩
end

set_option maxRecDepth 100000 in
set_option maxHeartbeats 6400000 in
theorem hbNew_self (self boot : Int) (w : World) (h : ¬ (0 ≤ self ∧ self < 4)) : Calls Try.prog 52 #[.int .i64 self, .int .i64 boot] w fun e w' => e = .returned (.tuple #[.pointer none, .int .i64 1]) ∧ Below w.heap.size w w' := by
  have HB := Lib.hid (Below.refl w.heap.size w)
  by_cases h0 : self < 0
  · have d1 : decide (self < 0) = true := decide_eq_true h0
    go_enter Try.func52, Try.ntmps52
    go_wp2
    go_ret2
    exact ⟨rfl, HB.out⟩
  · have d1 : decide (self < 0) = false := decide_eq_false h0
    have d2 : decide (self ≥ 4) = true := decide_eq_true (by omega)
    go_enter Try.func52, Try.ntmps52
    go_wp2
    go_ret2
    exact ⟨rfl, HB.out⟩
set_option maxRecDepth 100000 in
set_option maxHeartbeats 6400000 in
theorem hbNew_boot (self boot : Int) (w : World) (hs : 0 ≤ self ∧ self < 4) (h : ¬ (1 ≤ boot ∧ boot ≤ 1073741824)) : Calls Try.prog 52 #[.int .i64 self, .int .i64 boot] w fun e w' => e = .returned (.tuple #[.pointer none, .int .i64 1]) ∧ Below w.heap.size w w' := by
  have HB := Lib.hid ((Below.refl w.heap.size w).alloc (Nat.le_refl _) (.cells #[.bool true, .pointer none, .pointer none, .pointer none, .pointer none] 129))
  have d1 : decide (self < 0) = false := decide_eq_false (by omega)
  have d2 : decide (self ≥ 4) = false := decide_eq_false (by omega)
  go_enter Try.func52, Try.ntmps52
  go_wp2
  go_loopg [18] 5 (fun g s wr => ∃ i : Nat, s = .int .i64 i ∧ (i = 0 ∨ i = 1 ∧ self = 0) ∧ 5 ≤ i + g ∧ Hid (Below w.heap.size w wr))
  case atStart => exact ⟨0, rfl, .inl rfl, by omega, HB⟩
  case round =>
    obtain ⟨i, rfl, hi, hg, HB⟩ := hrel
    rcases hi with rfl | ⟨rfl, hs0⟩
    · by_cases h0 : self = 0
      · have hd : ((0 : Int) == self) = true := by rw [h0]; rfl
        go_wp2
        go_roundg (gk - 1)
        case rel => exact ⟨1, rfl, .inr ⟨rfl, h0⟩, by omega, HB⟩
        case measure => omega
      · have hd : ((0 : Int) == self) = false := by simp; omega
        go_wp2_with fail
        refine (lkNew_bad boot _ h).mono ?_
        rintro e w1 ⟨rfl, rfl⟩
        go_wp2
        go_ret2
        exact ⟨rfl, HB.out⟩
    · have hd : ((1 : Int) == self) = false := by simp; omega
      go_wp2_with fail
      refine (lkNew_bad boot _ h).mono ?_
      rintro e w1 ⟨rfl, rfl⟩
      go_wp2
      go_ret2
      exact ⟨rfl, HB.out⟩
set_option maxRecDepth 100000 in
set_option maxHeartbeats 6400000 in
theorem hbNew_ok (self boot : Int) (w : World) (hs : 0 ≤ self ∧ self < 4) (hbt : 1 ≤ boot ∧ boot ≤ 1073741824) : Calls Try.prog 52 #[.int .i64 self, .int .i64 boot] w fun e w' => ∃ S : Nat → Prop, e = .returned (.tuple #[pt w.heap.size 0, .int .i64 0]) ∧ HbX 129 102 hubC S w' w.heap.size (newM self boot 4) ∧ (∀ k, S k → w.heap.size ≤ k) ∧ Below w.heap.size w w' := by
  have HB := Lib.hid ((Below.refl w.heap.size w).alloc (Nat.le_refl _) (.cells #[.bool true, .pointer none, .pointer none, .pointer none, .pointer none] 129))
  have HS := Lib.hid (HbQ.start (TL := 102) (C := hubC) (TH := 129) (w := (w.alloc (.cells #[.bool true, .pointer none, .pointer none, .pointer none, .pointer none] 129))) (b := w.heap.size) (World.alloc_heap_new w _))
  have d1 : decide (self < 0) = false := decide_eq_false (by omega)
  have d2 : decide (self ≥ 4) = false := decide_eq_false (by omega)
  go_enter Try.func52, Try.ntmps52
  go_wp2
  go_loopg [18] 5 (fun g s wr => ∃ (i : Nat) (q : Nat → Option Nat) (F : Nat → Nat → Prop) (S : Nat → Prop), s = .int .i64 i ∧ i ≤ 4 ∧ 5 ≤ i + g ∧ Hid (Below w.heap.size w wr) ∧ Hid (HbQ 129 102 hubC q F S wr w.heap.size (newM self boot i)) ∧ Hid (∀ k, S k → w.heap.size ≤ k))
  case atStart => exact ⟨0, _, _, _, rfl, by omega, by omega, HB, Lib.hid (by rw [newM_zero]; exact HS.out), Lib.hid (fun k hk => by rw [show k = w.heap.size from hk]; exact Nat.le_refl _)⟩
  case round =>
    obtain ⟨i, q, F, S, rfl, hi, hg, HB, HQ, HL⟩ := hrel
    have h5 : i = 4 ∨ i = 0 ∨ i = 1 ∨ i = 2 ∨ i = 3 := by omega
    rcases h5 with h | h | h | h | h
    · obtain rfl : i = 4 := h
      go_wp2
      go_ret2
      exact ⟨S, rfl, ⟨q, F, HQ.out⟩, HL.out, HB.out⟩
    · obtain rfl : i = 0 := h
      by_cases h0 : self = 0
      · have hd : ((0 : Int) == self) = true := by rw [h0]; rfl
        go_wp2
        go_roundg (gk - 1)
        case rel => exact ⟨1, q, F, S, rfl, by omega, by omega, HB, Lib.hid (by have := HQ.out; rw [← newM_skip (i := 0) (by omega)] at this; exact this), HL⟩
        case measure => omega
      · have hd : ((0 : Int) == self) = false := by simp; omega
        go_wp2_with fail
        refine (lkNew_ok boot _ hbt).mono ?_
        rintro e w1 ⟨rfl, hL, hB⟩
        have HL1 := Lib.hid hL; have HB1 := Lib.hid hB; clear hL hB
        have c : w1.cell? ⟨w.heap.size, 1, none⟩ = some (ptQ (q 0)) := (HQ.out.below HB1.out).blk.cell (k := 1) rfl
        have cf := (HQ.out.below HB1.out).blk.frozen 1
        go_wp2
        go_roundg (gk - 1)
        case rel =>
          have hput := HbQ.put (off := 1) (i := 0) (by show 1 + 0 < 5; omega) (by rfl) HQ.out (by omega) HB1.out HL1.out (fun k hk => by rw [show k = wr.heap.size from hk]; exact Nat.le_refl _)
          rw [← newM_put (by omega)] at hput
          refine ⟨1, _, _, _, rfl, by omega, by omega, ?_, Lib.hid hput, ?_⟩
          rotate_left
          · refine Lib.hid ?_
            rintro k (hk | ⟨j, hj, hk⟩)
            · omega
            · by_cases e : j = 0
              · rw [if_pos e] at hk; have := HB.out.size; have : k = wr.heap.size := hk; omega
              · rw [if_neg e] at hk; exact HL.out k ((HQ.out.fp k).2 (.inr ⟨j, hj, hk⟩))
          · exact Lib.hid ((HB.out.trans (HB1.out.mono HB.out.size)).setCell (Nat.le_refl _) _)
        case measure => omega
    · obtain rfl : i = 1 := h
      by_cases h0 : self = 1
      · have hd : ((1 : Int) == self) = true := by rw [h0]; rfl
        go_wp2
        go_roundg (gk - 1)
        case rel => exact ⟨2, q, F, S, rfl, by omega, by omega, HB, Lib.hid (by have := HQ.out; rw [← newM_skip (i := 1) (by omega)] at this; exact this), HL⟩
        case measure => omega
      · have hd : ((1 : Int) == self) = false := by simp; omega
        go_wp2_with fail
        refine (lkNew_ok boot _ hbt).mono ?_
        rintro e w1 ⟨rfl, hL, hB⟩
        have HL1 := Lib.hid hL; have HB1 := Lib.hid hB; clear hL hB
        have c : w1.cell? ⟨w.heap.size, 2, none⟩ = some (ptQ (q 1)) := (HQ.out.below HB1.out).blk.cell (k := 2) rfl
        have cf := (HQ.out.below HB1.out).blk.frozen 2
        go_wp2
        go_roundg (gk - 1)
        case rel =>
          have hput := HbQ.put (off := 1) (i := 1) (by show 1 + 1 < 5; omega) (by rfl) HQ.out (by omega) HB1.out HL1.out (fun k hk => by rw [show k = wr.heap.size from hk]; exact Nat.le_refl _)
          rw [← newM_put (by omega)] at hput
          refine ⟨2, _, _, _, rfl, by omega, by omega, ?_, Lib.hid hput, ?_⟩
          rotate_left
          · refine Lib.hid ?_
            rintro k (hk | ⟨j, hj, hk⟩)
            · omega
            · by_cases e : j = 1
              · rw [if_pos e] at hk; have := HB.out.size; have : k = wr.heap.size := hk; omega
              · rw [if_neg e] at hk; exact HL.out k ((HQ.out.fp k).2 (.inr ⟨j, hj, hk⟩))
          · exact Lib.hid ((HB.out.trans (HB1.out.mono HB.out.size)).setCell (Nat.le_refl _) _)
        case measure => omega
    · obtain rfl : i = 2 := h
      by_cases h0 : self = 2
      · have hd : ((2 : Int) == self) = true := by rw [h0]; rfl
        go_wp2
        go_roundg (gk - 1)
        case rel => exact ⟨3, q, F, S, rfl, by omega, by omega, HB, Lib.hid (by have := HQ.out; rw [← newM_skip (i := 2) (by omega)] at this; exact this), HL⟩
        case measure => omega
      · have hd : ((2 : Int) == self) = false := by simp; omega
        go_wp2_with fail
        refine (lkNew_ok boot _ hbt).mono ?_
        rintro e w1 ⟨rfl, hL, hB⟩
        have HL1 := Lib.hid hL; have HB1 := Lib.hid hB; clear hL hB
        have c : w1.cell? ⟨w.heap.size, 3, none⟩ = some (ptQ (q 2)) := (HQ.out.below HB1.out).blk.cell (k := 3) rfl
        have cf := (HQ.out.below HB1.out).blk.frozen 3
        go_wp2
        go_roundg (gk - 1)
        case rel =>
          have hput := HbQ.put (off := 1) (i := 2) (by show 1 + 2 < 5; omega) (by rfl) HQ.out (by omega) HB1.out HL1.out (fun k hk => by rw [show k = wr.heap.size from hk]; exact Nat.le_refl _)
          rw [← newM_put (by omega)] at hput
          refine ⟨3, _, _, _, rfl, by omega, by omega, ?_, Lib.hid hput, ?_⟩
          rotate_left
          · refine Lib.hid ?_
            rintro k (hk | ⟨j, hj, hk⟩)
            · omega
            · by_cases e : j = 2
              · rw [if_pos e] at hk; have := HB.out.size; have : k = wr.heap.size := hk; omega
              · rw [if_neg e] at hk; exact HL.out k ((HQ.out.fp k).2 (.inr ⟨j, hj, hk⟩))
          · exact Lib.hid ((HB.out.trans (HB1.out.mono HB.out.size)).setCell (Nat.le_refl _) _)
        case measure => omega
    · obtain rfl : i = 3 := h
      by_cases h0 : self = 3
      · have hd : ((3 : Int) == self) = true := by rw [h0]; rfl
        go_wp2
        go_roundg (gk - 1)
        case rel => exact ⟨4, q, F, S, rfl, by omega, by omega, HB, Lib.hid (by have := HQ.out; rw [← newM_skip (i := 3) (by omega)] at this; exact this), HL⟩
        case measure => omega
      · have hd : ((3 : Int) == self) = false := by simp; omega
        go_wp2_with fail
        refine (lkNew_ok boot _ hbt).mono ?_
        rintro e w1 ⟨rfl, hL, hB⟩
        have HL1 := Lib.hid hL; have HB1 := Lib.hid hB; clear hL hB
        have c : w1.cell? ⟨w.heap.size, 4, none⟩ = some (ptQ (q 3)) := (HQ.out.below HB1.out).blk.cell (k := 4) rfl
        have cf := (HQ.out.below HB1.out).blk.frozen 4
        go_wp2
        go_roundg (gk - 1)
        case rel =>
          have hput := HbQ.put (off := 1) (i := 3) (by show 1 + 3 < 5; omega) (by rfl) HQ.out (by omega) HB1.out HL1.out (fun k hk => by rw [show k = wr.heap.size from hk]; exact Nat.le_refl _)
          rw [← newM_put (by omega)] at hput
          refine ⟨4, _, _, _, rfl, by omega, by omega, ?_, Lib.hid hput, ?_⟩
          rotate_left
          · refine Lib.hid ?_
            rintro k (hk | ⟨j, hj, hk⟩)
            · omega
            · by_cases e : j = 3
              · rw [if_pos e] at hk; have := HB.out.size; have : k = wr.heap.size := hk; omega
              · rw [if_neg e] at hk; exact HL.out k ((HQ.out.fp k).2 (.inr ⟨j, hj, hk⟩))
          · exact Lib.hid ((HB.out.trans (HB1.out.mono HB.out.size)).setCell (Nat.le_refl _) _)
        case measure => omega

set_option maxRecDepth 100000 in
set_option maxHeartbeats 6400000 in
theorem rhNew_self (self boot : Int) (w : World) (h : ¬ (0 ≤ self ∧ self < 4)) : Calls Try.prog 53 #[.int .i64 self, .int .i64 boot] w fun e w' => e = .returned (.tuple #[.pointer none, .int .i64 1]) ∧ Below w.heap.size w w' := by
  have HB := Lib.hid (Below.refl w.heap.size w)
  by_cases h0 : self < 0
  · have d1 : decide (self < 0) = true := decide_eq_true h0
    go_enter Try.func53, Try.ntmps53
    go_wp2
    go_ret2
    exact ⟨rfl, HB.out⟩
  · have d1 : decide (self < 0) = false := decide_eq_false h0
    have d2 : decide (self ≥ 4) = true := decide_eq_true (by omega)
    go_enter Try.func53, Try.ntmps53
    go_wp2
    go_ret2
    exact ⟨rfl, HB.out⟩
set_option maxRecDepth 100000 in
set_option maxHeartbeats 6400000 in
theorem rhNew_boot (self boot : Int) (w : World) (hs : 0 ≤ self ∧ self < 4) (h : ¬ (1 ≤ boot ∧ boot ≤ 1073741824)) : Calls Try.prog 53 #[.int .i64 self, .int .i64 boot] w fun e w' => e = .returned (.tuple #[.pointer none, .int .i64 1]) ∧ Below w.heap.size w w' := by
  have HB := Lib.hid ((Below.refl w.heap.size w).alloc (Nat.le_refl _) (.cells #[.pointer none, .pointer none, .pointer none, .pointer none] 166))
  have d1 : decide (self < 0) = false := decide_eq_false (by omega)
  have d2 : decide (self ≥ 4) = false := decide_eq_false (by omega)
  go_enter Try.func53, Try.ntmps53
  go_wp2
  go_loopg [7] 5 (fun g s wr => ∃ i : Nat, s = .int .i64 i ∧ (i = 0 ∨ i = 1 ∧ self = 0) ∧ 5 ≤ i + g ∧ Hid (Below w.heap.size w wr))
  case atStart => exact ⟨0, rfl, .inl rfl, by omega, HB⟩
  case round =>
    obtain ⟨i, rfl, hi, hg, HB⟩ := hrel
    rcases hi with rfl | ⟨rfl, hs0⟩
    · by_cases h0 : self = 0
      · have hd : ((0 : Int) == self) = true := by rw [h0]; rfl
        go_wp2
        go_roundg (gk - 1)
        case rel => exact ⟨1, rfl, .inr ⟨rfl, h0⟩, by omega, HB⟩
        case measure => omega
      · have hd : ((0 : Int) == self) = false := by simp; omega
        go_wp2_with fail
        refine (rlNew_bad boot _ h).mono ?_
        rintro e w1 ⟨rfl, rfl⟩
        go_wp2
        go_ret2
        exact ⟨rfl, HB.out⟩
    · have hd : ((1 : Int) == self) = false := by simp; omega
      go_wp2_with fail
      refine (rlNew_bad boot _ h).mono ?_
      rintro e w1 ⟨rfl, rfl⟩
      go_wp2
      go_ret2
      exact ⟨rfl, HB.out⟩
set_option maxRecDepth 100000 in
set_option maxHeartbeats 6400000 in
theorem rhNew_ok (self boot : Int) (w : World) (hs : 0 ≤ self ∧ self < 4) (hbt : 1 ≤ boot ∧ boot ≤ 1073741824) : Calls Try.prog 53 #[.int .i64 self, .int .i64 boot] w fun e w' => ∃ S : Nat → Prop, e = .returned (.tuple #[pt w.heap.size 0, .int .i64 0]) ∧ HbX 166 74 hubR S w' w.heap.size (newM self boot 4) ∧ (∀ k, S k → w.heap.size ≤ k) ∧ Below w.heap.size w w' := by
  have HB := Lib.hid ((Below.refl w.heap.size w).alloc (Nat.le_refl _) (.cells #[.pointer none, .pointer none, .pointer none, .pointer none] 166))
  have HS := Lib.hid (HbQ.start (TL := 74) (C := hubR) (TH := 166) (w := (w.alloc (.cells #[.pointer none, .pointer none, .pointer none, .pointer none] 166))) (b := w.heap.size) (World.alloc_heap_new w _))
  have d1 : decide (self < 0) = false := decide_eq_false (by omega)
  have d2 : decide (self ≥ 4) = false := decide_eq_false (by omega)
  go_enter Try.func53, Try.ntmps53
  go_wp2
  go_loopg [7] 5 (fun g s wr => ∃ (i : Nat) (q : Nat → Option Nat) (F : Nat → Nat → Prop) (S : Nat → Prop), s = .int .i64 i ∧ i ≤ 4 ∧ 5 ≤ i + g ∧ Hid (Below w.heap.size w wr) ∧ Hid (HbQ 166 74 hubR q F S wr w.heap.size (newM self boot i)) ∧ Hid (∀ k, S k → w.heap.size ≤ k))
  case atStart => exact ⟨0, _, _, _, rfl, by omega, by omega, HB, Lib.hid (by rw [newM_zero]; exact HS.out), Lib.hid (fun k hk => by rw [show k = w.heap.size from hk]; exact Nat.le_refl _)⟩
  case round =>
    obtain ⟨i, q, F, S, rfl, hi, hg, HB, HQ, HL⟩ := hrel
    have h5 : i = 4 ∨ i = 0 ∨ i = 1 ∨ i = 2 ∨ i = 3 := by omega
    rcases h5 with h | h | h | h | h
    · obtain rfl : i = 4 := h
      go_wp2
      go_ret2
      exact ⟨S, rfl, ⟨q, F, HQ.out⟩, HL.out, HB.out⟩
    · obtain rfl : i = 0 := h
      by_cases h0 : self = 0
      · have hd : ((0 : Int) == self) = true := by rw [h0]; rfl
        go_wp2
        go_roundg (gk - 1)
        case rel => exact ⟨1, q, F, S, rfl, by omega, by omega, HB, Lib.hid (by have := HQ.out; rw [← newM_skip (i := 0) (by omega)] at this; exact this), HL⟩
        case measure => omega
      · have hd : ((0 : Int) == self) = false := by simp; omega
        go_wp2_with fail
        refine (rlNew_ok boot _ hbt).mono ?_
        rintro e w1 ⟨rfl, hL, hB⟩
        have HL1 := Lib.hid hL; have HB1 := Lib.hid hB; clear hL hB
        have c : w1.cell? ⟨w.heap.size, 0, none⟩ = some (ptQ (q 0)) := (HQ.out.below HB1.out).blk.cell (k := 0) rfl
        have cf := (HQ.out.below HB1.out).blk.frozen 0
        go_wp2
        go_roundg (gk - 1)
        case rel =>
          have hput := HbQ.put (off := 0) (i := 0) (by show 0 + 0 < 4; omega) (by rfl) HQ.out (by omega) HB1.out HL1.out (fun k hk => by rw [show k = wr.heap.size from hk]; exact Nat.le_refl _)
          rw [← newM_put (by omega)] at hput
          refine ⟨1, _, _, _, rfl, by omega, by omega, ?_, Lib.hid hput, ?_⟩
          rotate_left
          · refine Lib.hid ?_
            rintro k (hk | ⟨j, hj, hk⟩)
            · omega
            · by_cases e : j = 0
              · rw [if_pos e] at hk; have := HB.out.size; have : k = wr.heap.size := hk; omega
              · rw [if_neg e] at hk; exact HL.out k ((HQ.out.fp k).2 (.inr ⟨j, hj, hk⟩))
          · exact Lib.hid ((HB.out.trans (HB1.out.mono HB.out.size)).setCell (Nat.le_refl _) _)
        case measure => omega
    · obtain rfl : i = 1 := h
      by_cases h0 : self = 1
      · have hd : ((1 : Int) == self) = true := by rw [h0]; rfl
        go_wp2
        go_roundg (gk - 1)
        case rel => exact ⟨2, q, F, S, rfl, by omega, by omega, HB, Lib.hid (by have := HQ.out; rw [← newM_skip (i := 1) (by omega)] at this; exact this), HL⟩
        case measure => omega
      · have hd : ((1 : Int) == self) = false := by simp; omega
        go_wp2_with fail
        refine (rlNew_ok boot _ hbt).mono ?_
        rintro e w1 ⟨rfl, hL, hB⟩
        have HL1 := Lib.hid hL; have HB1 := Lib.hid hB; clear hL hB
        have c : w1.cell? ⟨w.heap.size, 1, none⟩ = some (ptQ (q 1)) := (HQ.out.below HB1.out).blk.cell (k := 1) rfl
        have cf := (HQ.out.below HB1.out).blk.frozen 1
        go_wp2
        go_roundg (gk - 1)
        case rel =>
          have hput := HbQ.put (off := 0) (i := 1) (by show 0 + 1 < 4; omega) (by rfl) HQ.out (by omega) HB1.out HL1.out (fun k hk => by rw [show k = wr.heap.size from hk]; exact Nat.le_refl _)
          rw [← newM_put (by omega)] at hput
          refine ⟨2, _, _, _, rfl, by omega, by omega, ?_, Lib.hid hput, ?_⟩
          rotate_left
          · refine Lib.hid ?_
            rintro k (hk | ⟨j, hj, hk⟩)
            · omega
            · by_cases e : j = 1
              · rw [if_pos e] at hk; have := HB.out.size; have : k = wr.heap.size := hk; omega
              · rw [if_neg e] at hk; exact HL.out k ((HQ.out.fp k).2 (.inr ⟨j, hj, hk⟩))
          · exact Lib.hid ((HB.out.trans (HB1.out.mono HB.out.size)).setCell (Nat.le_refl _) _)
        case measure => omega
    · obtain rfl : i = 2 := h
      by_cases h0 : self = 2
      · have hd : ((2 : Int) == self) = true := by rw [h0]; rfl
        go_wp2
        go_roundg (gk - 1)
        case rel => exact ⟨3, q, F, S, rfl, by omega, by omega, HB, Lib.hid (by have := HQ.out; rw [← newM_skip (i := 2) (by omega)] at this; exact this), HL⟩
        case measure => omega
      · have hd : ((2 : Int) == self) = false := by simp; omega
        go_wp2_with fail
        refine (rlNew_ok boot _ hbt).mono ?_
        rintro e w1 ⟨rfl, hL, hB⟩
        have HL1 := Lib.hid hL; have HB1 := Lib.hid hB; clear hL hB
        have c : w1.cell? ⟨w.heap.size, 2, none⟩ = some (ptQ (q 2)) := (HQ.out.below HB1.out).blk.cell (k := 2) rfl
        have cf := (HQ.out.below HB1.out).blk.frozen 2
        go_wp2
        go_roundg (gk - 1)
        case rel =>
          have hput := HbQ.put (off := 0) (i := 2) (by show 0 + 2 < 4; omega) (by rfl) HQ.out (by omega) HB1.out HL1.out (fun k hk => by rw [show k = wr.heap.size from hk]; exact Nat.le_refl _)
          rw [← newM_put (by omega)] at hput
          refine ⟨3, _, _, _, rfl, by omega, by omega, ?_, Lib.hid hput, ?_⟩
          rotate_left
          · refine Lib.hid ?_
            rintro k (hk | ⟨j, hj, hk⟩)
            · omega
            · by_cases e : j = 2
              · rw [if_pos e] at hk; have := HB.out.size; have : k = wr.heap.size := hk; omega
              · rw [if_neg e] at hk; exact HL.out k ((HQ.out.fp k).2 (.inr ⟨j, hj, hk⟩))
          · exact Lib.hid ((HB.out.trans (HB1.out.mono HB.out.size)).setCell (Nat.le_refl _) _)
        case measure => omega
    · obtain rfl : i = 3 := h
      by_cases h0 : self = 3
      · have hd : ((3 : Int) == self) = true := by rw [h0]; rfl
        go_wp2
        go_roundg (gk - 1)
        case rel => exact ⟨4, q, F, S, rfl, by omega, by omega, HB, Lib.hid (by have := HQ.out; rw [← newM_skip (i := 3) (by omega)] at this; exact this), HL⟩
        case measure => omega
      · have hd : ((3 : Int) == self) = false := by simp; omega
        go_wp2_with fail
        refine (rlNew_ok boot _ hbt).mono ?_
        rintro e w1 ⟨rfl, hL, hB⟩
        have HL1 := Lib.hid hL; have HB1 := Lib.hid hB; clear hL hB
        have c : w1.cell? ⟨w.heap.size, 3, none⟩ = some (ptQ (q 3)) := (HQ.out.below HB1.out).blk.cell (k := 3) rfl
        have cf := (HQ.out.below HB1.out).blk.frozen 3
        go_wp2
        go_roundg (gk - 1)
        case rel =>
          have hput := HbQ.put (off := 0) (i := 3) (by show 0 + 3 < 4; omega) (by rfl) HQ.out (by omega) HB1.out HL1.out (fun k hk => by rw [show k = wr.heap.size from hk]; exact Nat.le_refl _)
          rw [← newM_put (by omega)] at hput
          refine ⟨4, _, _, _, rfl, by omega, by omega, ?_, Lib.hid hput, ?_⟩
          rotate_left
          · refine Lib.hid ?_
            rintro k (hk | ⟨j, hj, hk⟩)
            · omega
            · by_cases e : j = 3
              · rw [if_pos e] at hk; have := HB.out.size; have : k = wr.heap.size := hk; omega
              · rw [if_neg e] at hk; exact HL.out k ((HQ.out.fp k).2 (.inr ⟨j, hj, hk⟩))
          · exact Lib.hid ((HB.out.trans (HB1.out.mono HB.out.size)).setCell (Nat.le_refl _) _)
        case measure => omega

end Go.Proofs.Ythmljllgfigebaa

/- Package hub: what goes out; the links of a hub, one by one. Conditions: none. -/
namespace Go.Proofs.Ythmljllgfigebaa
open Go.RowKit Go.PlainAid
set_option linter.unusedVariables false

/-- What of a link's segments can be told, with the number of whom it is for. -/
def okH (i : Nat) (l : List SegT) : List (Int × ByteArray) := l.filterMap fun g => if (putG g).2 = 0 then some ((i : Int), (putG g).1) else none
def hkT (M : Nat → Option LnT) (i : Nat) (g : Bool) : List SegT := match M i with
  | none => []
  | some L => outT L g
def hkN (M : Nat → Option LnT) (i : Nat) : Nat → Option LnT := match M i with
  | none => M
  | some L => setM M i (outN L)
def outM (M : Nat → Option LnT) : Nat → (Nat → Option LnT)
  | 0 => M
  | i + 1 => hkN (outM M i) i
def outH (M : Nat → Option LnT) (g : Bool) : Nat → List (Int × ByteArray)
  | 0 => []
  | i + 1 => outH M g i ++ okH i (hkT (outM M i) i g)
def outE (p : Int × ByteArray) : List Value := [.int .i64 p.1, .string p.2]
theorem outE_len (p : Int × ByteArray) : (outE p).length = 2 := rfl
theorem outE_one (p : Int × ByteArray) : ∀ u ∈ outE p, u.oneCell' = true := by intro u hu; simp [outE] at hu; rcases hu with rfl | rfl <;> rfl
theorem okH_nil {X : List (Int × ByteArray)} {i : Nat} {l : List SegT} : X = X ++ okH i (l.take 0) := by simp [okH]
theorem okH_yes {X : List (Int × ByteArray)} {i k : Nat} {l : List SegT} {y : SegT} (hy : l[k]? = some y) (h : (putG y).2 = 0) : (X ++ okH i (l.take k)) ++ [((i : Int), (putG y).1)] = X ++ okH i (l.take (k + 1)) := by
  rw [List.take_add_one, hy]; simp [okH, h, List.filterMap_append]
theorem okH_no {X : List (Int × ByteArray)} {i k : Nat} {l : List SegT} {y : SegT} (hy : l[k]? = some y) (h : ¬ (putG y).2 = 0) : X ++ okH i (l.take k) = X ++ okH i (l.take (k + 1)) := by
  rw [List.take_add_one, hy]; simp [okH, h, List.filterMap_append]
theorem okH_all {M : Nat → Option LnT} {g : Bool} {i k : Nat} (h : (hkT (outM M i) i g).length ≤ k) : outH M g i ++ okH i ((hkT (outM M i) i g).take k) = outH M g (i + 1) := by
  rw [List.take_of_length_le h]; rfl
theorem okH_len {i : Nat} {l : List SegT} : (okH i l).length ≤ l.length := List.length_filterMap_le _ _
theorem hkT_len (M : Nat → Option LnT) (i : Nat) (g : Bool) : (hkT M i g).length ≤ 8 := by
  unfold hkT; split
  · simp
  · exact outT_len _ _
theorem outH_len (M : Nat → Option LnT) (g : Bool) (i : Nat) : (outH M g i).length ≤ 8 * i := by
  induction i with
  | zero => simp [outH]
  | succ i ih =>
    have h1 := okH_len (i := i) (l := hkT (outM M i) i g)
    have h2 := hkT_len (outM M i) i g
    simp only [outH, List.length_append]; omega
theorem outT_segB {L : LnT} (h : LnOk L) (g : Bool) : ∀ s ∈ outT L g, SegB s := by
  intro s hs
  have hb := outT_body h g s hs
  have h1 := h.boot; have h2 := h.stream; have h3 := h.first; have h5 := h.peer; have h6 := h.in0; have h7 := h.next; have h8 := h.len
  have hq : s.boot = L.boot ∧ s.stream = L.stream ∧ s.seq ≤ L.first + 8 ∧ s.ab = L.peer ∧ s.ast = L.in0 ∧ s.asq = L.next := by
    unfold outT segsL at hs
    split at hs
    · split at hs
      · simp at hs; subst hs; exact ⟨rfl, rfl, by show L.first ≤ L.first + 8; omega, rfl, rfl, rfl⟩
      · simp at hs
    · unfold outsL eachL at hs
      simp only [List.mem_map, List.mem_range'_1] at hs
      obtain ⟨p, ⟨i, hi, rfl⟩, rfl⟩ := hs
      have := L.to_le
      exact ⟨rfl, rfl, by show L.first + (i : Int) ≤ L.first + 8; omega, rfl, rfl, rfl⟩
  obtain ⟨e1, e2, e3, e4, e5, e6⟩ := hq
  exact ⟨⟨by omega, by omega, by omega, by omega, by omega, by omega⟩, by omega⟩
/-- A hub whose links lie in the blocks q. -/
def HbK (TH TL : TypeId) (C : (Nat → Option Nat) → Array Value) (S : Nat → Prop) (w : World) (b : Nat) (q : Nat → Option Nat) (M : Nat → Option LnT) : Prop := ∃ F, HbQ TH TL C q F S w b M
def HkP (S : Nat → Prop) (w : World) (b : Nat) (q : Nat → Option Nat) (M : Nat → Option LnT) : Prop := HbK 129 102 hubC S w b q M
def HkR (S : Nat → Prop) (w : World) (b : Nat) (q : Nat → Option Nat) (M : Nat → Option LnT) : Prop := HbK 166 74 hubR S w b q M
section
variable {TH TL : TypeId} {C : (Nat → Option Nat) → Array Value} {q : Nat → Option Nat} {S S' D : Nat → Prop} {w x : World} {b i : Nat} {M : Nat → Option LnT}
theorem HbK.ofS (h : HbK TH TL C S w b q M) : ∀ k, S k → k < w.heap.size := by obtain ⟨F, h⟩ := h; exact h.ofS
theorem HbK.keep (h : HbK TH TL C S w b q M) (hk : ∀ k, S k → x.heap[k]? = w.heap[k]?) : HbK TH TL C S x b q M := by obtain ⟨F, h⟩ := h; exact ⟨F, h.keep hk⟩
theorem HbK.gr {row : Option Nat} (h : HbK TH TL C S w b q M) (hg : w.grownBy x row) (hr : ∀ k, row = some k → ¬ S k) : HbK TH TL C S x b q M := h.keep fun q hq => hg.block q (h.ofS q hq) (fun e => hr q e.symm hq)
theorem HbK.but (h : HbK TH TL C S w b q M) (hb : But D w x) (ha : ∀ q, S q → D q → False) : HbK TH TL C S x b q M := h.keep fun q hq => hb.block q (h.ofS q hq) (fun hd => ha q hq hd)
theorem HbK.blk (h : HbK TH TL C S w b q M) : Blk w b TH (C q) := by obtain ⟨F, h⟩ := h; exact h.blk
theorem HbK.out_ok (h : HbK TH TL C S w b q M) (hi : i < 4) (g : Bool) : ∀ s ∈ hkT M i g, SegB s := by
  obtain ⟨F, h⟩ := h
  intro s hs
  rcases h.one i hi with ⟨h1, h2, h3⟩ | ⟨N, L, h1, h2, h3⟩
  · unfold hkT at hs; rw [h2] at hs; simp at hs
  · unfold hkT at hs; rw [h2] at hs; exact outT_segB h3.ok g s hs
end
section
variable {q : Nat → Option Nat} {S S' D : Nat → Prop} {w x : World} {b i : Nat} {M : Nat → Option LnT}
theorem HkP.ofS (h : HkP S w b q M) : ∀ k, S k → k < w.heap.size := HbK.ofS h
theorem HkP.gr {row : Option Nat} (h : HkP S w b q M) (hg : w.grownBy x row) (hr : ∀ k, row = some k → ¬ S k) : HkP S x b q M := HbK.gr h hg hr
theorem HkP.but (h : HkP S w b q M) (hb : But D w x) (ha : ∀ q, S q → D q → False) : HkP S x b q M := HbK.but h hb ha
theorem HkR.ofS (h : HkR S w b q M) : ∀ k, S k → k < w.heap.size := HbK.ofS h
theorem HkR.gr {row : Option Nat} (h : HkR S w b q M) (hg : w.grownBy x row) (hr : ∀ k, row = some k → ¬ S k) : HkR S x b q M := HbK.gr h hg hr
theorem HkR.but (h : HkR S w b q M) (hb : But D w x) (ha : ∀ q, S q → D q → False) : HkR S x b q M := HbK.but h hb ha
theorem kHubOut (w : World) (g : Bool) (hi : i < 4) (h : HkP S w b q M) : Calls Try.prog 37 #[ptQ (q i), .bool g] w fun e w' => ∃ (v : Value) (S' : Nat → Prop), e = .returned v ∧ HkP S' w' b q (hkN M i) ∧ w'.ownsRow w.heap.size 61 8 v (hkT M i g).length ((hkT M i g).flatMap segE) ∧ (∀ k, S' k → k < w.heap.size) ∧ Grew S S' w w' := by
  obtain ⟨F, h⟩ := h
  rcases h.one i hi with ⟨h1, h2, h3⟩ | ⟨N, L, h1, h2, h3⟩
  · rw [h1]
    refine (zoutL w _ g (.inl rfl)).mono ?_
    rintro e x ⟨rfl, rfl⟩
    have e1 : hkN M i = M := by unfold hkN; rw [h2]
    have e2 : hkT M i g = [] := by unfold hkT; rw [h2]
    rw [e1, e2]
    exact ⟨_, S, rfl, ⟨F, h⟩, World.ownsRow_nil _ _ _ _, h.ofS, fun k h => .inl h, But.refl _ _⟩
  · rw [h1]
    refine (kOut (b := N) (L := L) (S := F i) w g h3).mono ?_
    rintro e x ⟨v, S', rfl, h4, h5, h6, h7⟩
    have e1 : hkN M i = setM M i (outN L) := by unfold hkN; rw [h2]
    have e2 : hkT M i g = outT L g := by unfold hkT; rw [h2]
    rw [e1, e2]
    obtain ⟨F2, S2, h8, h9, h10⟩ := h.turnQ hi h1 h4 h7
    exact ⟨v, S2, rfl, ⟨F2, h8⟩, h5, fun k hk => by rcases h10 k hk with h11 | h11; exact h.ofS k h11; exact h6 k h11, h9⟩
theorem rHubOut (w : World) (g : Bool) (hi : i < 4) (hn : (q i).isNone = false) (h : HkR S w b q M) : Calls Try.prog 38 #[ptQ (q i), .bool g] w fun e w' => ∃ (v : Value) (S' : Nat → Prop), e = .returned v ∧ HkR S' w' b q (hkN M i) ∧ w'.ownsRow w.heap.size 61 8 v (hkT M i g).length ((hkT M i g).flatMap segE) ∧ (∀ k, S' k → k < w.heap.size) ∧ Grew S S' w w' := by
  obtain ⟨F, h⟩ := h
  rcases h.one i hi with ⟨h1, h2, h3⟩ | ⟨N, L, h1, h2, h3⟩
  · rw [h1] at hn; cases hn
  · rw [h1]
    obtain ⟨u, h3⟩ := h3
    refine (rOut (b := N) (u := u) (L := L) (S := F i) w g h3).mono ?_
    rintro e x ⟨v, S', rfl, h4, h5, h6, h7⟩
    have e1 : hkN M i = setM M i (outN L) := by unfold hkN; rw [h2]
    have e2 : hkT M i g = outT L g := by unfold hkT; rw [h2]
    rw [e1, e2]
    obtain ⟨F2, S2, h8, h9, h10⟩ := h.turnQ hi h1 ⟨u, h4⟩ h7
    exact ⟨v, S2, rfl, ⟨F2, h8⟩, h5, fun k hk => by rcases h10 k hk with h11 | h11; exact h.ofS k h11; exact h6 k h11, h9⟩
/-- One that is not there tells nothing. -/
theorem HkR.none (h : HkR S w b q M) (hi : i < 4) (hn : (q i).isNone = true) : M i = none := by
  obtain ⟨F, h⟩ := h
  rcases h.one i hi with ⟨h1, h2, h3⟩ | ⟨N, L, h1, h2, h3⟩
  · exact h2
  · rw [h1] at hn; cases hn
end
theorem hkN_none {M : Nat → Option LnT} {i : Nat} (h : M i = none) : hkN M i = M := by unfold hkN; rw [h]
theorem hkT_none {M : Nat → Option LnT} {i : Nat} {g : Bool} (h : M i = none) : hkT M i g = [] := by unfold hkT; rw [h]
theorem outM_skip {M : Nat → Option LnT} {i : Nat} (h : outM M i i = none) : outM M (i + 1) = outM M i := hkN_none h
theorem outH_skip {M : Nat → Option LnT} {g : Bool} {i : Nat} (h : outM M i i = none) : outH M g i = outH M g (i + 1) := by
  show _ = outH M g i ++ okH i (hkT (outM M i) i g)
  rw [hkT_none h]; simp [okH]
theorem ix_hub (q : Nat → Option Nat) (i : Nat) (hi : i < 4) (w : World) : (Instr.index 127 (.agg #[ptQ (q 0), ptQ (q 1), ptQ (q 2), ptQ (q 3)]) (.int .i64 (i : Int))).run Try.prog w = .ok (ptQ (q i)) w := by
  have h : i = 0 ∨ i = 1 ∨ i = 2 ∨ i = 3 := by omega
  rcases h with rfl | rfl | rfl | rfl
  · have e : ∀ w : World, (Instr.index 127 (.agg #[ptQ (q 0), ptQ (q 1), ptQ (q 2), ptQ (q 3)]) (.int .i64 0)).run Try.prog w = .ok (ptQ (q 0)) w := fun w => by kernel_rfl
    exact e w
  · have e : ∀ w : World, (Instr.index 127 (.agg #[ptQ (q 0), ptQ (q 1), ptQ (q 2), ptQ (q 3)]) (.int .i64 1)).run Try.prog w = .ok (ptQ (q 1)) w := fun w => by kernel_rfl
    exact e w
  · have e : ∀ w : World, (Instr.index 127 (.agg #[ptQ (q 0), ptQ (q 1), ptQ (q 2), ptQ (q 3)]) (.int .i64 2)).run Try.prog w = .ok (ptQ (q 2)) w := fun w => by kernel_rfl
    exact e w
  · have e : ∀ w : World, (Instr.index 127 (.agg #[ptQ (q 0), ptQ (q 1), ptQ (q 2), ptQ (q 3)]) (.int .i64 3)).run Try.prog w = .ok (ptQ (q 3)) w := fun w => by kernel_rfl
    exact e w
theorem ixa_hub (b i : Nat) (hi : i < 4) (w : World) : (Instr.indexAt 164 (pt b 0) (.int .i64 (i : Int))).run Try.prog w = .ok (pt b i) w := by
  have h : i = 0 ∨ i = 1 ∨ i = 2 ∨ i = 3 := by omega
  rcases h with rfl | rfl | rfl | rfl
  · have e : ∀ w : World, (Instr.indexAt 164 (pt b 0) (.int .i64 0)).run Try.prog w = .ok (pt b 0) w := fun w => by kernel_rfl
    exact e w
  · have e : ∀ w : World, (Instr.indexAt 164 (pt b 0) (.int .i64 1)).run Try.prog w = .ok (pt b 1) w := fun w => by kernel_rfl
    exact e w
  · have e : ∀ w : World, (Instr.indexAt 164 (pt b 0) (.int .i64 2)).run Try.prog w = .ok (pt b 2) w := fun w => by kernel_rfl
    exact e w
  · have e : ∀ w : World, (Instr.indexAt 164 (pt b 0) (.int .i64 3)).run Try.prog w = .ok (pt b 3) w := fun w => by kernel_rfl
    exact e w
theorem hub_cell {q : Nat → Option Nat} {w : World} {b i : Nat} (h : Blk w b 166 (hubR q)) (hi : i < 4) : w.cell? ⟨b, i, none⟩ = some (ptQ (q i)) := by
  have h4 : i = 0 ∨ i = 1 ∨ i = 2 ∨ i = 3 := by omega
  rcases h4 with rfl | rfl | rfl | rfl <;> exact h.cell rfl
section
variable {P : Program} {m : List (Nat × Value)} {o : Oper} {w : World}
theorem rn_indexAny {t : TypeId} {x r : Operand} {V I u : Value} (ho : o.op = .index t x r) (hq : ev m x = some V) (hr : ev m r = some I) (hx : ∀ w : World, (Instr.index t V I).run P w = .ok u w) : (execOp (lk m) o).run P w = .ok (.value u) w := by
  unfold execOp
  simp only [ho, lk_ev hq, lk_ev hr, Sem.run_bind, hx, Result.andThen_ok, Sem.run_pure]
theorem rn_indexAtAny {t : TypeId} {x r : Operand} {V I u : Value} (ho : o.op = .indexAddr t x r) (hq : ev m x = some V) (hr : ev m r = some I) (hx : ∀ w : World, (Instr.indexAt t V I).run P w = .ok u w) : (execOp (lk m) o).run P w = .ok (.value u) w := by
  unfold execOp
  simp only [ho, lk_ev hq, lk_ev hr, Sem.run_bind, hx, Result.andThen_ok, Sem.run_pure]
end
end Go.Proofs.Ythmljllgfigebaa
