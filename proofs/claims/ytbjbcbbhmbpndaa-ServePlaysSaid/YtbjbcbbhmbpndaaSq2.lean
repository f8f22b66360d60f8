/- Put together: MeASp, MeBSp, GoSp, TrcASp, TrcBSp, TrcCSp. Conditions: as each says. -/
import Derived.Test.YtbjbcbbhmbpndaaSq1
/- Package mess: parts, numbers, lists checked. Conditions: none. -/
namespace Go.Proofs.Ytbjbcbbhmbpndaa
open Go.RowKit Go.PlainAid
set_option linter.unusedVariables false


abbrev PrT := ByteArray × ByteArray
def prE (y : PrT) : List Value := [.string y.1, .string y.2]
/-- A message, without where its lists lie. -/
structure MsgD where
  k : Int
  ep : Int
  rq : Int
  sr : Int
  fg : Bool
  at_ : Int
  la : Int
  n : Int
  m : Int
  p : Int
  e : Int
  key : ByteArray
  to_ : ByteArray
  cep : Int
  cms : List MemT
  cfl : Int
  bc : Int
  br : Int
  bl : List OpT
  en : List EntT
  st : List Int
  pr : List PrT
/-- What is known of a message that may be. -/
structure MsgR (d : MsgD) : Prop where
  mem : ∀ m ∈ d.cms, memOk m
  rng : (-9223372036854775808 ≤ d.cep ∧ d.cep ≤ 9223372036854775807) ∧ (0 ≤ d.cfl ∧ d.cfl < 18446744073709551616) ∧ (0 ≤ d.at_ ∧ d.at_ < 18446744073709551616) ∧ (0 ≤ d.la ∧ d.la < 18446744073709551616)
  st : ∀ t ∈ d.st, 0 ≤ t ∧ t < 18446744073709551616
/-- The parts of a kind, by the program's letters; by the document's. -/
def ptL (k : Int) : List UInt8 := if k = 1 then [67, 97] else if k = 2 then [101, 115, 102, 97, 108] else if k = 3 then [101, 110, 109, 112, 113, 97, 76] else if k = 4 then [101, 110, 109, 112, 83] else if k = 5 then [101, 66] else if k = 6 ∨ k = 11 then [113, 97] else if k = 7 then [113, 120, 101, 110] else if k = 8 then [113, 107, 97] else if k = 9 then [113, 107, 116, 97, 110] else if k = 10 then [113, 107, 97, 102, 82] else if k = 12 ∨ k = 13 ∨ k = 14 then [113, 110] else []
def pstr (k : Int) : ByteArray := ⟨(ptL k).toArray⟩
def numP (d : MsgD) (p : Int) : Int := if p = 101 then d.ep else if p = 115 then d.sr else if p = 113 then d.rq else if p = 110 then d.n else if p = 109 then d.m else if p = 112 then d.p else d.e
theorem np_1 {d : MsgD} {p : Int} (h : p = 101) : d.ep = numP d p := by unfold numP; rw [if_pos h]
theorem np_2 {d : MsgD} {p : Int} (h : p = 115) : d.sr = numP d p := by unfold numP; rw [if_neg (by omega), if_pos h]
theorem np_3 {d : MsgD} {p : Int} (h : p = 113) : d.rq = numP d p := by unfold numP; rw [if_neg (by omega), if_neg (by omega), if_pos h]
theorem np_4 {d : MsgD} {p : Int} (h : p = 110) : d.n = numP d p := by unfold numP; rw [if_neg (by omega), if_neg (by omega), if_neg (by omega), if_pos h]
theorem np_5 {d : MsgD} {p : Int} (h : p = 109) : d.m = numP d p := by unfold numP; rw [if_neg (by omega), if_neg (by omega), if_neg (by omega), if_neg (by omega), if_pos h]
theorem np_6 {d : MsgD} {p : Int} (h : p = 112) : d.p = numP d p := by unfold numP; rw [if_neg (by omega), if_neg (by omega), if_neg (by omega), if_neg (by omega), if_neg (by omega), if_pos h]
theorem np_7 {d : MsgD} {p : Int} (h : ¬ (p = 101 ∨ p = 115 ∨ p = 113 ∨ p = 110 ∨ p = 109 ∨ p = 112)) : d.e = numP d p := by unfold numP; rw [if_neg (by omega), if_neg (by omega), if_neg (by omega), if_neg (by omega), if_neg (by omega), if_neg (by omega)]
def chkF {α : Type} (f : α → Int) : List α → Int
  | [] => 0
  | x :: r => if f x ≠ 0 then f x else chkF f r
def chkLs {α : Type} (most : Int) (f : α → Int) (l : List α) : Int := if (l.length : Int) > most then 6 else chkF f l
theorem dropM {α : Type} {l : List α} {i : Nat} {y : α} (h : l[i]? = some y) : l.drop i = y :: l.drop (i + 1) := by
  obtain ⟨hi, rfl⟩ := List.getElem?_eq_some_iff.1 h
  exact List.drop_eq_getElem_cons hi
theorem cF_step {α : Type} {f : α → Int} {l : List α} {i : Nat} {y : α} {z : Int} (h : chkF f (l.drop i) = z) (hy : l[i]? = some y) (hc : f y = 0) : chkF f (l.drop (i + 1)) = z := by
  rw [dropM hy] at h; unfold chkF at h; rw [if_neg (by omega)] at h; exact h
theorem cF_bad {α : Type} {f : α → Int} {l : List α} {i : Nat} {y : α} {z : Int} (h : chkF f (l.drop i) = z) (hy : l[i]? = some y) (hc : f y ≠ 0) : f y = z := by
  rw [dropM hy] at h; unfold chkF at h; rwa [if_pos hc] at h
theorem cF_end {α : Type} {f : α → Int} {l : List α} {i : Nat} {z : Int} (h : chkF f (l.drop i) = z) (hi : l.length ≤ i) : 0 = z := by
  rw [List.drop_eq_nil_of_le hi] at h; simpa [chkF] using h
def chkPair (y : PrT) : Int := if keyC y.1 ≠ 0 then keyC y.1 else if (y.2.size : Int) > 8 then 3 else 0
def chkEn (e : EntT) : Int := chkB e.client e.req e.opl
def chkSt (_ : Int) : Int := 0
def numL (p : Int) : Prop := p = 101 ∨ p = 115 ∨ p = 113 ∨ p = 110 ∨ p = 109 ∨ p = 112
instance (p : Int) : Decidable (numL p) := by unfold numL; infer_instance
def chkP (d : MsgD) (p : Int) : Int :=
  if p = 120 then (if d.e < 0 ∨ d.e > 21 then 1 else 0)
  else if numL p then (if numP d p < 0 ∨ numP d p > 1073741824 then 5 else 0)
  else if p = 107 then (if (d.key.size : Int) > 8 then 3 else 0)
  else if p = 116 then (if (d.to_.size : Int) > 8 then 3 else 0)
  else if p = 67 then chkC d.cep d.cms
  else if p = 66 then chkB d.bc d.br d.bl
  else if p = 76 then chkLs 4 chkEn d.en
  else if p = 83 then chkLs 8 chkSt d.st
  else if p = 82 then chkLs 32 chkPair d.pr else 0

set_option maxRecDepth 100000 in
theorem mKnown_any (k : Int) (w : World)  :
    Calls Try.prog 84 #[.int .i64 k] w fun e w' => e = .returned (.bool (decide (1 ≤ k ∧ k ≤ 15))) ∧ Below w.heap.size w w' := by
 have hB0 := Below.refl w.heap.size w
 refine co_enter (n := 9) Try.func84 rfl rfl rfl [(0, .int .i64 k)] rfl (fun a h0 => ?_)
 refine co_seq ?_
 refine co_reg ?_
 refine pk0 (v := .bool false) h0 rfl fun a1 h1 => ?_; clear h0
 refine pl_nil ?_
 refine co_then ?_
 refine co_seq ?_
 refine co_reg ?_
 refine pk0 (v := .int .i64 k) h1 rfl fun a2 h2 => ?_; clear h1
 refine pk0 (v := .bool (decide (k ≥ 1))) h2 rfl fun a3 h3 => ?_; clear h2
 refine pk0 (v := .bool (decide (k ≥ 1))) h3 rfl fun a4 h4 => ?_; clear h3
 cases hc5 : (decide (k ≥ 1))
 ·
  rw [hc5] at h4
  have hp6 : ¬ (k ≥ 1) := of_decide_eq_false hc5
  clear hc5
  refine psk h4 rfl fun a7 h7 => ?_; clear h4
  refine psk h7 rfl fun a8 h8 => ?_; clear h7
  refine pk0 (v := .bool false) h8 rfl fun a9 h9 => ?_; clear h8
  refine pk0 (v := .bool false) h9 rfl fun a10 h10 => ?_; clear h9
  refine pl_nil ?_
  refine co_then ?_
  refine wp_ret ?_
  refine co_ret1 h10 rfl rfl ?_
  exact ⟨ret_bool (by first | rfl | exact (decide_eq_true (by omega)).symm | exact (decide_eq_false (by omega)).symm | (rw [Bool.eq_iff_iff]; simp; omega)), hB0⟩
 ·
  rw [hc5] at h4
  have hp11 : k ≥ 1 := of_decide_eq_true hc5
  clear hc5
  refine pk0 (v := .int .i64 k) h4 rfl fun a12 h12 => ?_; clear h4
  refine pk0 (v := .bool (decide (k ≤ 15))) h12 rfl fun a13 h13 => ?_; clear h12
  refine pk0 (v := .bool (decide (k ≤ 15))) h13 rfl fun a14 h14 => ?_; clear h13
  refine pk0 (v := .bool (decide (k ≤ 15))) h14 rfl fun a15 h15 => ?_; clear h14
  refine pl_nil ?_
  refine co_then ?_
  refine wp_ret ?_
  refine co_ret1 h15 rfl rfl ?_
  exact ⟨ret_bool (by first | rfl | exact (decide_eq_true (by omega)).symm | exact (decide_eq_false (by omega)).symm | (rw [Bool.eq_iff_iff]; simp; omega)), hB0⟩
set_option maxRecDepth 100000 in
theorem mParts_any (k : Int) (w : World)  :
    Calls Try.prog 85 #[.int .i64 k] w fun e w' => e = .returned (.string (pstr k)) ∧ Below w.heap.size w w' := by
 have hB0 := Below.refl w.heap.size w
 refine co_enter (n := 29) Try.func85 rfl rfl rfl [(0, .int .i64 k)] rfl (fun a h0 => ?_)
 refine co_seq ?_
 refine co_reg ?_
 refine pk0 (v := .string (⟨#[]⟩)) h0 rfl fun a1 h1 => ?_; clear h0
 refine pl_nil ?_
 refine co_then ?_
 refine co_seq ?_
 refine co_seq ?_
 refine co_reg ?_
 refine pk0 (v := .int .i64 k) h1 rfl fun a2 h2 => ?_; clear h1
 refine pl_nil ?_
 refine co_then ?_
 refine wp_block ?_
 refine co_seq ?_
 refine co_reg ?_
 refine pk0 (v := .bool (k == 1)) h2 rfl fun a3 h3 => ?_; clear h2
 refine pk0 (v := .bool (k == 1)) h3 rfl fun a4 h4 => ?_; clear h3
 refine pl_nil ?_
 refine co_then ?_
 cases hc5 : (k == 1)
 ·
  rw [hc5] at h4
  have hp6 : ¬ (k = 1) := by first | simpa using hc5 | simpa [and_assoc] using hc5
  clear hc5
  refine co_false h4 rfl ?_
  refine co_seq ?_
  refine co_reg ?_
  refine pk0 (v := .bool (k == 2)) h4 rfl fun a7 h7 => ?_; clear h4
  refine pk0 (v := .bool (k == 2)) h7 rfl fun a8 h8 => ?_; clear h7
  refine pl_nil ?_
  refine co_then ?_
  cases hc9 : (k == 2)
  ·
   rw [hc9] at h8
   have hp10 : ¬ (k = 2) := by first | simpa using hc9 | simpa [and_assoc] using hc9
   clear hc9
   refine co_false h8 rfl ?_
   refine co_seq ?_
   refine co_reg ?_
   refine pk0 (v := .bool (k == 3)) h8 rfl fun a11 h11 => ?_; clear h8
   refine pk0 (v := .bool (k == 3)) h11 rfl fun a12 h12 => ?_; clear h11
   refine pl_nil ?_
   refine co_then ?_
   cases hc13 : (k == 3)
   ·
    rw [hc13] at h12
    have hp14 : ¬ (k = 3) := by first | simpa using hc13 | simpa [and_assoc] using hc13
    clear hc13
    refine co_false h12 rfl ?_
    refine co_seq ?_
    refine co_reg ?_
    refine pk0 (v := .bool (k == 4)) h12 rfl fun a15 h15 => ?_; clear h12
    refine pk0 (v := .bool (k == 4)) h15 rfl fun a16 h16 => ?_; clear h15
    refine pl_nil ?_
    refine co_then ?_
    cases hc17 : (k == 4)
    ·
     rw [hc17] at h16
     have hp18 : ¬ (k = 4) := by first | simpa using hc17 | simpa [and_assoc] using hc17
     clear hc17
     refine co_false h16 rfl ?_
     refine co_seq ?_
     refine co_reg ?_
     refine pk0 (v := .bool (k == 5)) h16 rfl fun a19 h19 => ?_; clear h16
     refine pk0 (v := .bool (k == 5)) h19 rfl fun a20 h20 => ?_; clear h19
     refine pl_nil ?_
     refine co_then ?_
     cases hc21 : (k == 5)
     ·
      rw [hc21] at h20
      have hp22 : ¬ (k = 5) := by first | simpa using hc21 | simpa [and_assoc] using hc21
      clear hc21
      refine co_false h20 rfl ?_
      refine co_seq ?_
      refine co_seq ?_
      refine co_reg ?_
      refine pk0 (v := .bool (k == 6)) h20 rfl fun a23 h23 => ?_; clear h20
      refine pk0 (v := .bool (k == 6)) h23 rfl fun a24 h24 => ?_; clear h23
      refine pl_nil ?_
      refine co_then ?_
      cases hc25 : (k == 6)
      ·
       rw [hc25] at h24
       have hp26 : ¬ (k = 6) := by first | simpa using hc25 | simpa [and_assoc] using hc25
       clear hc25
       refine co_false h24 rfl ?_
       refine co_reg ?_
       refine pk0 (v := .bool (k == 11)) h24 rfl fun a27 h27 => ?_; clear h24
       refine pk0 (v := .bool (k == 11)) h27 rfl fun a28 h28 => ?_; clear h27
       refine pl_nil ?_
       refine co_then ?_
       cases hc29 : (k == 11)
       ·
        rw [hc29] at h28
        have hp30 : ¬ (k = 11) := by first | simpa using hc29 | simpa [and_assoc] using hc29
        clear hc29
        refine co_false h28 rfl ?_
        refine co_seq ?_
        refine co_reg ?_
        refine pk0 (v := .bool (k == 7)) h28 rfl fun a31 h31 => ?_; clear h28
        refine pk0 (v := .bool (k == 7)) h31 rfl fun a32 h32 => ?_; clear h31
        refine pl_nil ?_
        refine co_then ?_
        cases hc33 : (k == 7)
        ·
         rw [hc33] at h32
         have hp34 : ¬ (k = 7) := by first | simpa using hc33 | simpa [and_assoc] using hc33
         clear hc33
         refine co_false h32 rfl ?_
         refine co_seq ?_
         refine co_reg ?_
         refine pk0 (v := .bool (k == 8)) h32 rfl fun a35 h35 => ?_; clear h32
         refine pk0 (v := .bool (k == 8)) h35 rfl fun a36 h36 => ?_; clear h35
         refine pl_nil ?_
         refine co_then ?_
         cases hc37 : (k == 8)
         ·
          rw [hc37] at h36
          have hp38 : ¬ (k = 8) := by first | simpa using hc37 | simpa [and_assoc] using hc37
          clear hc37
          refine co_false h36 rfl ?_
          refine co_seq ?_
          refine co_reg ?_
          refine pk0 (v := .bool (k == 9)) h36 rfl fun a39 h39 => ?_; clear h36
          refine pk0 (v := .bool (k == 9)) h39 rfl fun a40 h40 => ?_; clear h39
          refine pl_nil ?_
          refine co_then ?_
          cases hc41 : (k == 9)
          ·
           rw [hc41] at h40
           have hp42 : ¬ (k = 9) := by first | simpa using hc41 | simpa [and_assoc] using hc41
           clear hc41
           refine co_false h40 rfl ?_
           refine co_seq ?_
           refine co_reg ?_
           refine pk0 (v := .bool (k == 10)) h40 rfl fun a43 h43 => ?_; clear h40
           refine pk0 (v := .bool (k == 10)) h43 rfl fun a44 h44 => ?_; clear h43
           refine pl_nil ?_
           refine co_then ?_
           cases hc45 : (k == 10)
           ·
            rw [hc45] at h44
            have hp46 : ¬ (k = 10) := by first | simpa using hc45 | simpa [and_assoc] using hc45
            clear hc45
            refine co_false h44 rfl ?_
            refine co_seq ?_
            refine co_seq ?_
            refine co_reg ?_
            refine pk0 (v := .bool (k == 12)) h44 rfl fun a47 h47 => ?_; clear h44
            refine pk0 (v := .bool (k == 12)) h47 rfl fun a48 h48 => ?_; clear h47
            refine pl_nil ?_
            refine co_then ?_
            cases hc49 : (k == 12)
            ·
             rw [hc49] at h48
             have hp50 : ¬ (k = 12) := by first | simpa using hc49 | simpa [and_assoc] using hc49
             clear hc49
             refine co_false h48 rfl ?_
             refine co_seq ?_
             refine co_reg ?_
             refine pk0 (v := .bool (k == 13)) h48 rfl fun a51 h51 => ?_; clear h48
             refine pk0 (v := .bool (k == 13)) h51 rfl fun a52 h52 => ?_; clear h51
             refine pl_nil ?_
             refine co_then ?_
             cases hc53 : (k == 13)
             ·
              rw [hc53] at h52
              have hp54 : ¬ (k = 13) := by first | simpa using hc53 | simpa [and_assoc] using hc53
              clear hc53
              refine co_false h52 rfl ?_
              refine co_reg ?_
              refine pk0 (v := .bool (k == 14)) h52 rfl fun a55 h55 => ?_; clear h52
              refine pk0 (v := .bool (k == 14)) h55 rfl fun a56 h56 => ?_; clear h55
              refine pl_nil ?_
              refine co_then ?_
              cases hc57 : (k == 14)
              ·
               rw [hc57] at h56
               have hp58 : ¬ (k = 14) := by first | simpa using hc57 | simpa [and_assoc] using hc57
               clear hc57
               refine co_false h56 rfl ?_
               refine wp_skip ?_
               refine co_blockN ?_
               refine co_then ?_
               refine co_seq ?_
               refine co_reg ?_
               refine pk0 (v := .string (⟨#[]⟩)) h56 rfl fun a59 h59 => ?_; clear h56
               refine pl_nil ?_
               refine co_then ?_
               refine wp_ret ?_
               refine co_ret1 h59 rfl rfl ?_
               exact ⟨by rw [show pstr k = ⟨#[]⟩ by unfold pstr ptL; first | (rw [if_pos (by omega)]; done) | (simp (config := {decide := true}) only [show ¬ k = 1 by omega, if_false]; simp_all; done) | (repeat (first | rw [if_pos (by omega)] | rw [if_neg (by omega)]))], hB0⟩
              ·
               rw [hc57] at h56
               have hp60 : k = 14 := by first | simpa using hc57 | simpa [and_assoc] using hc57
               clear hc57
               refine co_true h56 rfl ?_
               refine co_seq ?_
               refine co_reg ?_
               refine pk0 (v := .string (⟨#[113, 110]⟩)) h56 rfl fun a61 h61 => ?_; clear h56
               refine pl_nil ?_
               refine co_then ?_
               refine wp_ret ?_
               refine co_blockR ?_
               refine co_thenR ?_
               refine co_ret1 h61 rfl rfl ?_
               exact ⟨by rw [show pstr k = ⟨#[113, 110]⟩ by unfold pstr ptL; first | (rw [if_pos (by omega)]; done) | (simp (config := {decide := true}) only [show ¬ k = 1 by omega, if_false]; simp_all; done) | (repeat (first | rw [if_pos (by omega)] | rw [if_neg (by omega)]))], hB0⟩
             ·
              rw [hc53] at h52
              have hp62 : k = 13 := by first | simpa using hc53 | simpa [and_assoc] using hc53
              clear hc53
              refine co_true h52 rfl ?_
              refine wp_skip ?_
              refine co_then ?_
              refine co_true h52 rfl ?_
              refine co_seq ?_
              refine co_reg ?_
              refine pk0 (v := .string (⟨#[113, 110]⟩)) h52 rfl fun a63 h63 => ?_; clear h52
              refine pl_nil ?_
              refine co_then ?_
              refine wp_ret ?_
              refine co_blockR ?_
              refine co_thenR ?_
              refine co_ret1 h63 rfl rfl ?_
              exact ⟨by rw [show pstr k = ⟨#[113, 110]⟩ by unfold pstr ptL; first | (rw [if_pos (by omega)]; done) | (simp (config := {decide := true}) only [show ¬ k = 1 by omega, if_false]; simp_all; done) | (repeat (first | rw [if_pos (by omega)] | rw [if_neg (by omega)]))], hB0⟩
            ·
             rw [hc49] at h48
             have hp64 : k = 12 := by first | simpa using hc49 | simpa [and_assoc] using hc49
             clear hc49
             refine co_true h48 rfl ?_
             refine wp_skip ?_
             refine co_then ?_
             refine co_true h48 rfl ?_
             refine co_seq ?_
             refine co_reg ?_
             refine pk0 (v := .string (⟨#[113, 110]⟩)) h48 rfl fun a65 h65 => ?_; clear h48
             refine pl_nil ?_
             refine co_then ?_
             refine wp_ret ?_
             refine co_blockR ?_
             refine co_thenR ?_
             refine co_ret1 h65 rfl rfl ?_
             exact ⟨by rw [show pstr k = ⟨#[113, 110]⟩ by unfold pstr ptL; first | (rw [if_pos (by omega)]; done) | (simp (config := {decide := true}) only [show ¬ k = 1 by omega, if_false]; simp_all; done) | (repeat (first | rw [if_pos (by omega)] | rw [if_neg (by omega)]))], hB0⟩
           ·
            rw [hc45] at h44
            have hp66 : k = 10 := by first | simpa using hc45 | simpa [and_assoc] using hc45
            clear hc45
            refine co_true h44 rfl ?_
            refine co_seq ?_
            refine co_reg ?_
            refine pk0 (v := .string (⟨#[113, 107, 97, 102, 82]⟩)) h44 rfl fun a67 h67 => ?_; clear h44
            refine pl_nil ?_
            refine co_then ?_
            refine wp_ret ?_
            refine co_blockR ?_
            refine co_thenR ?_
            refine co_ret1 h67 rfl rfl ?_
            exact ⟨by rw [show pstr k = ⟨#[113, 107, 97, 102, 82]⟩ by unfold pstr ptL; first | (rw [if_pos (by omega)]; done) | (simp (config := {decide := true}) only [show ¬ k = 1 by omega, if_false]; simp_all; done) | (repeat (first | rw [if_pos (by omega)] | rw [if_neg (by omega)]))], hB0⟩
          ·
           rw [hc41] at h40
           have hp68 : k = 9 := by first | simpa using hc41 | simpa [and_assoc] using hc41
           clear hc41
           refine co_true h40 rfl ?_
           refine co_seq ?_
           refine co_reg ?_
           refine pk0 (v := .string (⟨#[113, 107, 116, 97, 110]⟩)) h40 rfl fun a69 h69 => ?_; clear h40
           refine pl_nil ?_
           refine co_then ?_
           refine wp_ret ?_
           refine co_blockR ?_
           refine co_thenR ?_
           refine co_ret1 h69 rfl rfl ?_
           exact ⟨by rw [show pstr k = ⟨#[113, 107, 116, 97, 110]⟩ by unfold pstr ptL; first | (rw [if_pos (by omega)]; done) | (simp (config := {decide := true}) only [show ¬ k = 1 by omega, if_false]; simp_all; done) | (repeat (first | rw [if_pos (by omega)] | rw [if_neg (by omega)]))], hB0⟩
         ·
          rw [hc37] at h36
          have hp70 : k = 8 := by first | simpa using hc37 | simpa [and_assoc] using hc37
          clear hc37
          refine co_true h36 rfl ?_
          refine co_seq ?_
          refine co_reg ?_
          refine pk0 (v := .string (⟨#[113, 107, 97]⟩)) h36 rfl fun a71 h71 => ?_; clear h36
          refine pl_nil ?_
          refine co_then ?_
          refine wp_ret ?_
          refine co_blockR ?_
          refine co_thenR ?_
          refine co_ret1 h71 rfl rfl ?_
          exact ⟨by rw [show pstr k = ⟨#[113, 107, 97]⟩ by unfold pstr ptL; first | (rw [if_pos (by omega)]; done) | (simp (config := {decide := true}) only [show ¬ k = 1 by omega, if_false]; simp_all; done) | (repeat (first | rw [if_pos (by omega)] | rw [if_neg (by omega)]))], hB0⟩
        ·
         rw [hc33] at h32
         have hp72 : k = 7 := by first | simpa using hc33 | simpa [and_assoc] using hc33
         clear hc33
         refine co_true h32 rfl ?_
         refine co_seq ?_
         refine co_reg ?_
         refine pk0 (v := .string (⟨#[113, 120, 101, 110]⟩)) h32 rfl fun a73 h73 => ?_; clear h32
         refine pl_nil ?_
         refine co_then ?_
         refine wp_ret ?_
         refine co_blockR ?_
         refine co_thenR ?_
         refine co_ret1 h73 rfl rfl ?_
         exact ⟨by rw [show pstr k = ⟨#[113, 120, 101, 110]⟩ by unfold pstr ptL; first | (rw [if_pos (by omega)]; done) | (simp (config := {decide := true}) only [show ¬ k = 1 by omega, if_false]; simp_all; done) | (repeat (first | rw [if_pos (by omega)] | rw [if_neg (by omega)]))], hB0⟩
       ·
        rw [hc29] at h28
        have hp74 : k = 11 := by first | simpa using hc29 | simpa [and_assoc] using hc29
        clear hc29
        refine co_true h28 rfl ?_
        refine co_seq ?_
        refine co_reg ?_
        refine pk0 (v := .string (⟨#[113, 97]⟩)) h28 rfl fun a75 h75 => ?_; clear h28
        refine pl_nil ?_
        refine co_then ?_
        refine wp_ret ?_
        refine co_blockR ?_
        refine co_thenR ?_
        refine co_ret1 h75 rfl rfl ?_
        exact ⟨by rw [show pstr k = ⟨#[113, 97]⟩ by unfold pstr ptL; first | (rw [if_pos (by omega)]; done) | (simp (config := {decide := true}) only [show ¬ k = 1 by omega, if_false]; simp_all; done) | (repeat (first | rw [if_pos (by omega)] | rw [if_neg (by omega)]))], hB0⟩
      ·
       rw [hc25] at h24
       have hp76 : k = 6 := by first | simpa using hc25 | simpa [and_assoc] using hc25
       clear hc25
       refine co_true h24 rfl ?_
       refine wp_skip ?_
       refine co_then ?_
       refine co_true h24 rfl ?_
       refine co_seq ?_
       refine co_reg ?_
       refine pk0 (v := .string (⟨#[113, 97]⟩)) h24 rfl fun a77 h77 => ?_; clear h24
       refine pl_nil ?_
       refine co_then ?_
       refine wp_ret ?_
       refine co_blockR ?_
       refine co_thenR ?_
       refine co_ret1 h77 rfl rfl ?_
       exact ⟨by rw [show pstr k = ⟨#[113, 97]⟩ by unfold pstr ptL; first | (rw [if_pos (by omega)]; done) | (simp (config := {decide := true}) only [show ¬ k = 1 by omega, if_false]; simp_all; done) | (repeat (first | rw [if_pos (by omega)] | rw [if_neg (by omega)]))], hB0⟩
     ·
      rw [hc21] at h20
      have hp78 : k = 5 := by first | simpa using hc21 | simpa [and_assoc] using hc21
      clear hc21
      refine co_true h20 rfl ?_
      refine co_seq ?_
      refine co_reg ?_
      refine pk0 (v := .string (⟨#[101, 66]⟩)) h20 rfl fun a79 h79 => ?_; clear h20
      refine pl_nil ?_
      refine co_then ?_
      refine wp_ret ?_
      refine co_blockR ?_
      refine co_thenR ?_
      refine co_ret1 h79 rfl rfl ?_
      exact ⟨by rw [show pstr k = ⟨#[101, 66]⟩ by unfold pstr ptL; first | (rw [if_pos (by omega)]; done) | (simp (config := {decide := true}) only [show ¬ k = 1 by omega, if_false]; simp_all; done) | (repeat (first | rw [if_pos (by omega)] | rw [if_neg (by omega)]))], hB0⟩
    ·
     rw [hc17] at h16
     have hp80 : k = 4 := by first | simpa using hc17 | simpa [and_assoc] using hc17
     clear hc17
     refine co_true h16 rfl ?_
     refine co_seq ?_
     refine co_reg ?_
     refine pk0 (v := .string (⟨#[101, 110, 109, 112, 83]⟩)) h16 rfl fun a81 h81 => ?_; clear h16
     refine pl_nil ?_
     refine co_then ?_
     refine wp_ret ?_
     refine co_blockR ?_
     refine co_thenR ?_
     refine co_ret1 h81 rfl rfl ?_
     exact ⟨by rw [show pstr k = ⟨#[101, 110, 109, 112, 83]⟩ by unfold pstr ptL; first | (rw [if_pos (by omega)]; done) | (simp (config := {decide := true}) only [show ¬ k = 1 by omega, if_false]; simp_all; done) | (repeat (first | rw [if_pos (by omega)] | rw [if_neg (by omega)]))], hB0⟩
   ·
    rw [hc13] at h12
    have hp82 : k = 3 := by first | simpa using hc13 | simpa [and_assoc] using hc13
    clear hc13
    refine co_true h12 rfl ?_
    refine co_seq ?_
    refine co_reg ?_
    refine pk0 (v := .string (⟨#[101, 110, 109, 112, 113, 97, 76]⟩)) h12 rfl fun a83 h83 => ?_; clear h12
    refine pl_nil ?_
    refine co_then ?_
    refine wp_ret ?_
    refine co_blockR ?_
    refine co_thenR ?_
    refine co_ret1 h83 rfl rfl ?_
    exact ⟨by rw [show pstr k = ⟨#[101, 110, 109, 112, 113, 97, 76]⟩ by unfold pstr ptL; first | (rw [if_pos (by omega)]; done) | (simp (config := {decide := true}) only [show ¬ k = 1 by omega, if_false]; simp_all; done) | (repeat (first | rw [if_pos (by omega)] | rw [if_neg (by omega)]))], hB0⟩
  ·
   rw [hc9] at h8
   have hp84 : k = 2 := by first | simpa using hc9 | simpa [and_assoc] using hc9
   clear hc9
   refine co_true h8 rfl ?_
   refine co_seq ?_
   refine co_reg ?_
   refine pk0 (v := .string (⟨#[101, 115, 102, 97, 108]⟩)) h8 rfl fun a85 h85 => ?_; clear h8
   refine pl_nil ?_
   refine co_then ?_
   refine wp_ret ?_
   refine co_blockR ?_
   refine co_thenR ?_
   refine co_ret1 h85 rfl rfl ?_
   exact ⟨by rw [show pstr k = ⟨#[101, 115, 102, 97, 108]⟩ by unfold pstr ptL; first | (rw [if_pos (by omega)]; done) | (simp (config := {decide := true}) only [show ¬ k = 1 by omega, if_false]; simp_all; done) | (repeat (first | rw [if_pos (by omega)] | rw [if_neg (by omega)]))], hB0⟩
 ·
  rw [hc5] at h4
  have hp86 : k = 1 := by first | simpa using hc5 | simpa [and_assoc] using hc5
  clear hc5
  refine co_true h4 rfl ?_
  refine co_seq ?_
  refine co_reg ?_
  refine pk0 (v := .string (⟨#[67, 97]⟩)) h4 rfl fun a87 h87 => ?_; clear h4
  refine pl_nil ?_
  refine co_then ?_
  refine wp_ret ?_
  refine co_blockR ?_
  refine co_thenR ?_
  refine co_ret1 h87 rfl rfl ?_
  exact ⟨by rw [show pstr k = ⟨#[67, 97]⟩ by unfold pstr ptL; first | (rw [if_pos (by omega)]; done) | (simp (config := {decide := true}) only [show ¬ k = 1 by omega, if_false]; simp_all; done) | (repeat (first | rw [if_pos (by omega)] | rw [if_neg (by omega)]))], hB0⟩
set_option maxRecDepth 100000 in
theorem mNumber_any (B : Nat) (d : MsgD) (mv : Value) (bv : Value) (ev : Value) (sv : Value) (pv : Value) (p : Int) (w : World) (hB : Blk w B 37 #[.int .i64 d.k, .int .i64 d.ep, .int .i64 d.rq, .int .i64 d.sr, .bool d.fg, .int .u64 d.at_, .int .u64 d.la, .int .i64 d.n, .int .i64 d.m, .int .i64 d.p, .int .i64 d.e, .string d.key, .string d.to_, .int .i64 d.cep, mv, .int .u64 d.cfl, .int .i64 d.bc, .int .i64 d.br, bv, ev, sv, pv]) (hm : SliceOf memE 2 w mv d.cms) (hb : SliceOf opE 3 w bv d.bl) (he : SliceOf entE 4 w ev d.en) (ht : SliceOf (intE .u64) 1 w sv d.st) (hp : SliceOf prE 2 w pv d.pr) :
    Calls Try.prog 110 #[pt B 0, .int .i32 p] w fun e w' => e = .returned (.int .i64 (numP d p)) ∧ Below w.heap.size w w' := by
 have hB0 := Below.refl w.heap.size w
 have hl_hB := hB.lt
 have hl_hm := sl_len hm
 have hl_hb := sl_len hb
 have hl_he := sl_len he
 have hl_ht := sl_len ht
 have hl_hp := sl_len hp
 refine co_enter (n := 46) Try.func110 rfl rfl rfl [(0, pt B 0), (1, .int .i32 p)] rfl (fun a h0 => ?_)
 refine co_seq ?_
 refine co_reg ?_
 refine pk0 (v := .int .i64 0) h0 rfl fun a1 h1 => ?_; clear h0
 refine pl_nil ?_
 refine co_then ?_
 refine co_seq ?_
 refine co_seq ?_
 refine co_reg ?_
 refine pk0 (v := .int .i32 p) h1 rfl fun a2 h2 => ?_; clear h1
 refine pl_nil ?_
 refine co_then ?_
 refine wp_block ?_
 refine co_seq ?_
 refine co_reg ?_
 refine pk0 (v := .bool (p == 101)) h2 rfl fun a3 h3 => ?_; clear h2
 refine pk0 (v := .bool (p == 101)) h3 rfl fun a4 h4 => ?_; clear h3
 refine pl_nil ?_
 refine co_then ?_
 cases hc5 : (p == 101)
 ·
  rw [hc5] at h4
  have hp6 : ¬ (p = 101) := by first | simpa using hc5 | simpa [and_assoc] using hc5
  clear hc5
  refine co_false h4 rfl ?_
  refine co_seq ?_
  refine co_reg ?_
  refine pk0 (v := .bool (p == 115)) h4 rfl fun a7 h7 => ?_; clear h4
  refine pk0 (v := .bool (p == 115)) h7 rfl fun a8 h8 => ?_; clear h7
  refine pl_nil ?_
  refine co_then ?_
  cases hc9 : (p == 115)
  ·
   rw [hc9] at h8
   have hp10 : ¬ (p = 115) := by first | simpa using hc9 | simpa [and_assoc] using hc9
   clear hc9
   refine co_false h8 rfl ?_
   refine co_seq ?_
   refine co_reg ?_
   refine pk0 (v := .bool (p == 113)) h8 rfl fun a11 h11 => ?_; clear h8
   refine pk0 (v := .bool (p == 113)) h11 rfl fun a12 h12 => ?_; clear h11
   refine pl_nil ?_
   refine co_then ?_
   cases hc13 : (p == 113)
   ·
    rw [hc13] at h12
    have hp14 : ¬ (p = 113) := by first | simpa using hc13 | simpa [and_assoc] using hc13
    clear hc13
    refine co_false h12 rfl ?_
    refine co_seq ?_
    refine co_reg ?_
    refine pk0 (v := .bool (p == 110)) h12 rfl fun a15 h15 => ?_; clear h12
    refine pk0 (v := .bool (p == 110)) h15 rfl fun a16 h16 => ?_; clear h15
    refine pl_nil ?_
    refine co_then ?_
    cases hc17 : (p == 110)
    ·
     rw [hc17] at h16
     have hp18 : ¬ (p = 110) := by first | simpa using hc17 | simpa [and_assoc] using hc17
     clear hc17
     refine co_false h16 rfl ?_
     refine co_seq ?_
     refine co_reg ?_
     refine pk0 (v := .bool (p == 109)) h16 rfl fun a19 h19 => ?_; clear h16
     refine pk0 (v := .bool (p == 109)) h19 rfl fun a20 h20 => ?_; clear h19
     refine pl_nil ?_
     refine co_then ?_
     cases hc21 : (p == 109)
     ·
      rw [hc21] at h20
      have hp22 : ¬ (p = 109) := by first | simpa using hc21 | simpa [and_assoc] using hc21
      clear hc21
      refine co_false h20 rfl ?_
      refine co_seq ?_
      refine co_reg ?_
      refine pk0 (v := .bool (p == 112)) h20 rfl fun a23 h23 => ?_; clear h20
      refine pk0 (v := .bool (p == 112)) h23 rfl fun a24 h24 => ?_; clear h23
      refine pl_nil ?_
      refine co_then ?_
      cases hc25 : (p == 112)
      ·
       rw [hc25] at h24
       have hp26 : ¬ (p = 112) := by first | simpa using hc25 | simpa [and_assoc] using hc25
       clear hc25
       refine co_false h24 rfl ?_
       refine wp_skip ?_
       refine co_blockN ?_
       refine co_then ?_
       refine co_seq ?_
       refine co_reg ?_
       refine pk0 (v := pt B 0) h24 rfl fun a27 h27 => ?_; clear h24
       refine pk0 (v := pt B 0) h27 rfl fun a28 h28 => ?_; clear h27
       refine pk0 (v := pt B 10) h28 rfl fun a29 h29 => ?_; clear h28
       refine pk (v := .int .i64 d.e) h29 rfl (rn_load1 rfl rfl Try.isAgg26 (hB.cell rfl)) fun a30 h30 => ?_; clear h29
       refine pk0 (v := .int .i64 d.e) h30 rfl fun a31 h31 => ?_; clear h30
       refine pl_nil ?_
       refine co_then ?_
       refine wp_ret ?_
       refine co_ret1 h31 rfl rfl ?_
       exact ⟨ret_int (np_7 (by omega)), hB0⟩
      ·
       rw [hc25] at h24
       have hp32 : p = 112 := by first | simpa using hc25 | simpa [and_assoc] using hc25
       clear hc25
       refine co_true h24 rfl ?_
       refine co_seq ?_
       refine co_reg ?_
       refine pk0 (v := pt B 0) h24 rfl fun a33 h33 => ?_; clear h24
       refine pk0 (v := pt B 0) h33 rfl fun a34 h34 => ?_; clear h33
       refine pk0 (v := pt B 9) h34 rfl fun a35 h35 => ?_; clear h34
       refine pk (v := .int .i64 d.p) h35 rfl (rn_load1 rfl rfl Try.isAgg3 (hB.cell rfl)) fun a36 h36 => ?_; clear h35
       refine pk0 (v := .int .i64 d.p) h36 rfl fun a37 h37 => ?_; clear h36
       refine pl_nil ?_
       refine co_then ?_
       refine wp_ret ?_
       refine co_blockR ?_
       refine co_thenR ?_
       refine co_ret1 h37 rfl rfl ?_
       exact ⟨ret_int (np_6 (by omega)), hB0⟩
     ·
      rw [hc21] at h20
      have hp38 : p = 109 := by first | simpa using hc21 | simpa [and_assoc] using hc21
      clear hc21
      refine co_true h20 rfl ?_
      refine co_seq ?_
      refine co_reg ?_
      refine pk0 (v := pt B 0) h20 rfl fun a39 h39 => ?_; clear h20
      refine pk0 (v := pt B 0) h39 rfl fun a40 h40 => ?_; clear h39
      refine pk0 (v := pt B 8) h40 rfl fun a41 h41 => ?_; clear h40
      refine pk (v := .int .i64 d.m) h41 rfl (rn_load1 rfl rfl Try.isAgg3 (hB.cell rfl)) fun a42 h42 => ?_; clear h41
      refine pk0 (v := .int .i64 d.m) h42 rfl fun a43 h43 => ?_; clear h42
      refine pl_nil ?_
      refine co_then ?_
      refine wp_ret ?_
      refine co_blockR ?_
      refine co_thenR ?_
      refine co_ret1 h43 rfl rfl ?_
      exact ⟨ret_int (np_5 (by omega)), hB0⟩
    ·
     rw [hc17] at h16
     have hp44 : p = 110 := by first | simpa using hc17 | simpa [and_assoc] using hc17
     clear hc17
     refine co_true h16 rfl ?_
     refine co_seq ?_
     refine co_reg ?_
     refine pk0 (v := pt B 0) h16 rfl fun a45 h45 => ?_; clear h16
     refine pk0 (v := pt B 0) h45 rfl fun a46 h46 => ?_; clear h45
     refine pk0 (v := pt B 7) h46 rfl fun a47 h47 => ?_; clear h46
     refine pk (v := .int .i64 d.n) h47 rfl (rn_load1 rfl rfl Try.isAgg3 (hB.cell rfl)) fun a48 h48 => ?_; clear h47
     refine pk0 (v := .int .i64 d.n) h48 rfl fun a49 h49 => ?_; clear h48
     refine pl_nil ?_
     refine co_then ?_
     refine wp_ret ?_
     refine co_blockR ?_
     refine co_thenR ?_
     refine co_ret1 h49 rfl rfl ?_
     exact ⟨ret_int (np_4 (by omega)), hB0⟩
   ·
    rw [hc13] at h12
    have hp50 : p = 113 := by first | simpa using hc13 | simpa [and_assoc] using hc13
    clear hc13
    refine co_true h12 rfl ?_
    refine co_seq ?_
    refine co_reg ?_
    refine pk0 (v := pt B 0) h12 rfl fun a51 h51 => ?_; clear h12
    refine pk0 (v := pt B 0) h51 rfl fun a52 h52 => ?_; clear h51
    refine pk0 (v := pt B 2) h52 rfl fun a53 h53 => ?_; clear h52
    refine pk (v := .int .i64 d.rq) h53 rfl (rn_load1 rfl rfl Try.isAgg3 (hB.cell rfl)) fun a54 h54 => ?_; clear h53
    refine pk0 (v := .int .i64 d.rq) h54 rfl fun a55 h55 => ?_; clear h54
    refine pl_nil ?_
    refine co_then ?_
    refine wp_ret ?_
    refine co_blockR ?_
    refine co_thenR ?_
    refine co_ret1 h55 rfl rfl ?_
    exact ⟨ret_int (np_3 (by omega)), hB0⟩
  ·
   rw [hc9] at h8
   have hp56 : p = 115 := by first | simpa using hc9 | simpa [and_assoc] using hc9
   clear hc9
   refine co_true h8 rfl ?_
   refine co_seq ?_
   refine co_reg ?_
   refine pk0 (v := pt B 0) h8 rfl fun a57 h57 => ?_; clear h8
   refine pk0 (v := pt B 0) h57 rfl fun a58 h58 => ?_; clear h57
   refine pk0 (v := pt B 3) h58 rfl fun a59 h59 => ?_; clear h58
   refine pk (v := .int .i64 d.sr) h59 rfl (rn_load1 rfl rfl Try.isAgg3 (hB.cell rfl)) fun a60 h60 => ?_; clear h59
   refine pk0 (v := .int .i64 d.sr) h60 rfl fun a61 h61 => ?_; clear h60
   refine pl_nil ?_
   refine co_then ?_
   refine wp_ret ?_
   refine co_blockR ?_
   refine co_thenR ?_
   refine co_ret1 h61 rfl rfl ?_
   exact ⟨ret_int (np_2 (by omega)), hB0⟩
 ·
  rw [hc5] at h4
  have hp62 : p = 101 := by first | simpa using hc5 | simpa [and_assoc] using hc5
  clear hc5
  refine co_true h4 rfl ?_
  refine co_seq ?_
  refine co_reg ?_
  refine pk0 (v := pt B 0) h4 rfl fun a63 h63 => ?_; clear h4
  refine pk0 (v := pt B 0) h63 rfl fun a64 h64 => ?_; clear h63
  refine pk0 (v := pt B 1) h64 rfl fun a65 h65 => ?_; clear h64
  refine pk (v := .int .i64 d.ep) h65 rfl (rn_load1 rfl rfl Try.isAgg3 (hB.cell rfl)) fun a66 h66 => ?_; clear h65
  refine pk0 (v := .int .i64 d.ep) h66 rfl fun a67 h67 => ?_; clear h66
  refine pl_nil ?_
  refine co_then ?_
  refine wp_ret ?_
  refine co_blockR ?_
  refine co_thenR ?_
  refine co_ret1 h67 rfl rfl ?_
  exact ⟨ret_int (np_1 (by omega)), hB0⟩
set_option maxRecDepth 100000 in
theorem mPair_any (y : PrT) (w : World)  :
    Calls Try.prog 118 #[.agg #[.string y.1, .string y.2]] w fun e w' => e = .returned (.int .i64 (chkPair y)) ∧ Below w.heap.size w w' := by
 have hB0 := Below.refl w.heap.size w
 refine co_enter (n := 14) Try.func118 rfl rfl rfl [(0, .agg #[.string y.1, .string y.2])] rfl (fun a h0 => ?_)
 refine co_seq ?_
 refine co_reg ?_
 refine pw h0 rfl (op_new (v := fun N => pt N 0) (T := 88) (cs := #[.string y.1, .string y.2]) (by kernel_rfl) (by kernel_rfl) (by kernel_rfl)) ?_; clear h0
 rintro _ w2 a1 ⟨N3, rfl, hN6, hz7, hk5, hg4⟩ h1
 have hz8 := hg4.size
 try dsimp only at h1
 refine pk0 (v := .int .i64 0) h1 rfl fun a9 h9 => ?_; clear h1
 refine pl_nil ?_
 refine co_then ?_
 refine co_seq ?_
 refine co_seq ?_
 refine co_reg ?_
 refine pk0 (v := pt N3 0) h9 rfl fun a10 h10 => ?_; clear h9
 refine pk (v := .string y.1) h10 rfl (rn_load1 rfl rfl Try.isAgg9 (hk5.cell rfl)) fun a11 h11 => ?_; clear h10
 refine pw h11 rfl (op_call (args := #[.string y.1]) (R := fun res xw => res = .int .i64 (keyC y.1) ∧ Below w2.heap.size w2 xw) rfl rfl rfl (by kernel_rfl) (by kernel_rfl) (Try.call100 _ _) (pKey_any y.1 w2 ) (by rintro e x ⟨rfl, hb14⟩; exact ⟨_, rfl, ⟨rfl, hb14⟩⟩)) ?_; clear h11
 rintro _ w13 a12 ⟨rfl, hb14⟩ h12
 have hz15 := hb14.size
 refine pk0 (v := .int .i64 (keyC y.1)) h12 rfl fun a16 h16 => ?_; clear h12
 refine pl_nil ?_
 refine co_then ?_
 refine co_seq ?_
 refine co_reg ?_
 refine pk0 (v := .int .i64 (keyC y.1)) h16 rfl fun a17 h17 => ?_; clear h16
 refine pk0 (v := .bool (keyC y.1 != 0)) h17 rfl fun a18 h18 => ?_; clear h17
 refine pl_nil ?_
 refine co_then ?_
 have hB20 := hb_new hB0 hg4
 have hB21 := hb_call hB20 hb14
 cases hc19 : (keyC y.1 != 0)
 ·
  rw [hc19] at h18
  have hp22 : ¬ (keyC y.1 ≠ 0) := by first | simpa using hc19 | simpa [and_assoc] using hc19
  clear hc19
  refine co_false h18 rfl ?_
  refine wp_skip ?_
  refine co_then ?_
  refine co_seq ?_
  refine co_seq ?_
  refine co_reg ?_
  refine pk0 (v := pt N3 1) h18 rfl fun a23 h23 => ?_; clear h18
  have hk24 := hk5.below hb14
  refine pk (v := .string y.2) h23 rfl (rn_load1 rfl rfl Try.isAgg9 (hk24.cell rfl)) fun a25 h25 => ?_; clear h23
  refine pk (v := .int .i64 ((y.2.size : Nat) : Int)) h25 rfl (rn_lenStr rfl rfl Try.underlying9) fun a26 h26 => ?_; clear h25
  refine pk0 (v := .bool (decide (((y.2.size : Nat) : Int) > 8))) h26 rfl fun a27 h27 => ?_; clear h26
  refine pl_nil ?_
  refine co_then ?_
  cases hc28 : (decide (((y.2.size : Nat) : Int) > 8))
  ·
   rw [hc28] at h27
   have hp29 : ¬ (((y.2.size : Nat) : Int) > 8) := of_decide_eq_false hc28
   clear hc28
   refine co_false h27 rfl ?_
   refine wp_skip ?_
   refine co_then ?_
   refine co_seq ?_
   refine co_reg ?_
   refine pk0 (v := .int .i64 0) h27 rfl fun a30 h30 => ?_; clear h27
   refine pl_nil ?_
   refine co_then ?_
   refine wp_ret ?_
   refine co_ret1 h30 rfl rfl ?_
   exact ⟨ret_int (by unfold chkPair; first | rw [if_pos (by assumption)] | (rw [if_neg (by omega), if_pos (by omega)]) | (rw [if_neg (by omega), if_neg (by omega)])), hB21⟩
  ·
   rw [hc28] at h27
   have hp31 : ((y.2.size : Nat) : Int) > 8 := of_decide_eq_true hc28
   clear hc28
   refine co_true h27 rfl ?_
   refine co_seq ?_
   refine co_reg ?_
   refine pk0 (v := .int .i64 3) h27 rfl fun a32 h32 => ?_; clear h27
   refine pl_nil ?_
   refine co_then ?_
   refine wp_ret ?_
   refine co_thenR ?_
   refine co_ret1 h32 rfl rfl ?_
   exact ⟨ret_int (by unfold chkPair; first | rw [if_pos (by assumption)] | (rw [if_neg (by omega), if_pos (by omega)]) | (rw [if_neg (by omega), if_neg (by omega)])), hB21⟩
 ·
  rw [hc19] at h18
  have hp33 : keyC y.1 ≠ 0 := by first | simpa using hc19 | simpa [and_assoc] using hc19
  clear hc19
  refine co_true h18 rfl ?_
  refine co_seq ?_
  refine co_reg ?_
  refine pk0 (v := .int .i64 (keyC y.1)) h18 rfl fun a34 h34 => ?_; clear h18
  refine pk0 (v := .int .i64 (keyC y.1)) h34 rfl fun a35 h35 => ?_; clear h34
  refine pl_nil ?_
  refine co_then ?_
  refine wp_ret ?_
  refine co_thenR ?_
  refine co_ret1 h35 rfl rfl ?_
  exact ⟨ret_int (by unfold chkPair; first | rw [if_pos (by assumption)] | (rw [if_neg (by omega), if_pos (by omega)]) | (rw [if_neg (by omega), if_neg (by omega)])), hB21⟩
set_option maxRecDepth 100000 in
theorem mStamp_any (y : Int) (w : World)  :
    Calls Try.prog 116 #[.int .u64 y] w fun e w' => e = .returned (.int .i64 (chkSt y)) ∧ Below w.heap.size w w' := by
 have hB0 := Below.refl w.heap.size w
 refine co_enter (n := 3) Try.func116 rfl rfl rfl [(0, .int .u64 y)] rfl (fun a h0 => ?_)
 refine co_seq ?_
 refine co_reg ?_
 refine pk0 (v := .int .i64 0) h0 rfl fun a1 h1 => ?_; clear h0
 refine pl_nil ?_
 refine co_then ?_
 refine co_seq ?_
 refine co_reg ?_
 refine pk0 (v := .int .i64 0) h1 rfl fun a2 h2 => ?_; clear h1
 refine pl_nil ?_
 refine co_then ?_
 refine wp_ret ?_
 refine co_ret1 h2 rfl rfl ?_
 exact ⟨rfl, hB0⟩
set_option maxRecDepth 100000 in
theorem mListP_any (v : Value) (l : List PrT) (w : World) (hs : SliceOf prE 2 w v l) :
    Calls Try.prog 117 #[v, .int .i64 32, .func (.func 118) #[] #[]] w fun e w' => e = .returned (.int .i64 (chkLs 32 chkPair l)) ∧ Below w.heap.size w w' := by
 have hB0 := Below.refl w.heap.size w
 have hl_hs := sl_len hs
 refine co_enter (n := 27) Try.func117 rfl rfl rfl [(0, v), (1, .int .i64 32), (2, .func (.func 118) #[] #[])] rfl (fun a h0 => ?_)
 refine co_seq ?_
 refine co_reg ?_
 refine pk0 (v := .int .i64 0) h0 rfl fun a1 h1 => ?_; clear h0
 refine pl_nil ?_
 refine co_then ?_
 refine co_seq ?_
 refine co_seq ?_
 refine co_reg ?_
 refine pk0 (v := v) h1 rfl fun a2 h2 => ?_; clear h1
 refine pk (v := .int .i64 ((l.length : Nat) : Int)) h2 rfl (rn_len rfl rfl Try.underlying35 hs) fun a3 h3 => ?_; clear h2
 refine pk0 (v := .int .i64 32) h3 rfl fun a4 h4 => ?_; clear h3
 refine pk0 (v := .bool (decide (((l.length : Nat) : Int) > 32))) h4 rfl fun a5 h5 => ?_; clear h4
 refine pl_nil ?_
 refine co_then ?_
 cases hc6 : (decide (((l.length : Nat) : Int) > 32))
 ·
  rw [hc6] at h5
  have hp7 : ¬ (((l.length : Nat) : Int) > 32) := of_decide_eq_false hc6
  clear hc6
  refine co_false h5 rfl ?_
  refine wp_skip ?_
  refine co_then ?_
  refine co_seq ?_
  refine co_seq ?_
  refine co_reg ?_
  refine pk0 (v := v) h5 rfl fun a8 h8 => ?_; clear h5
  refine pk (v := .int .i64 ((l.length : Nat) : Int)) h8 rfl (rn_len rfl rfl Try.underlying35 hs) fun a9 h9 => ?_; clear h8
  refine pk0 (v := .int .i64 0) h9 rfl fun a10 h10 => ?_; clear h9
  refine pl_nil ?_
  refine co_then ?_
  refine wp_block ?_
  have h11 : Slots 27 [(0, v), (1, .int .i64 32), (2, .func (.func 118) #[] #[]), (6, .int .i64 0), (14, v), (15, .int .i64 ((l.length : Nat) : Int)), (16, .int .i64 0)] _ := h10.sub ⟨rfl, rfl, rfl, rfl, rfl, rfl, rfl, trivial⟩; clear h10
  refine co_loop (fun mm a x => ∃ (i : Nat), Slots 27 [(0, v), (1, .int .i64 32), (2, .func (.func 118) #[] #[]), (6, .int .i64 0), (14, v), (15, .int .i64 ((l.length : Nat) : Int)), (16, .int .i64 ((i : Nat) : Int))] a ∧ mm = l.length - i ∧ (i ≤ l.length) ∧ (chkF chkPair (l.drop i) = chkF chkPair l) ∧ Below w.heap.size w x) (l.length - 0) ?_ ?_
  · exact ⟨0, h11.sub ⟨rfl, rfl, rfl, rfl, rfl, rfl, (slot_eq rfl (congrArg (Value.int .i64) (by first | rfl | omega))), trivial⟩, rfl, by omega, by first | rfl | exact hL', hB0⟩
  · rintro k12 a13 w14 ⟨i, h13, rfl, hi15, hi16, hB17⟩
    have hz18 := hB17.size
    have hL : chkF chkPair (l.drop i) = chkF chkPair l := by assumption
    refine co_seq ?_
    refine co_reg ?_
    refine pk0 (v := .bool (decide (((i : Nat) : Int) < ((l.length : Nat) : Int)))) h13 rfl fun a19 h19 => ?_; clear h13
    refine pl_nil ?_
    refine co_then ?_
    refine co_seq ?_
    cases hc20 : (decide (((i : Nat) : Int) < ((l.length : Nat) : Int)))
    ·
     rw [hc20] at h19
     have hp21 : ¬ (((i : Nat) : Int) < ((l.length : Nat) : Int)) := of_decide_eq_false hc20
     clear hc20
     refine co_false h19 rfl ?_
     refine wp_exit ?_
     refine co_thenX ?_
     refine co_thenX ?_
     refine co_blockX ?_
     refine co_then ?_
     refine co_seq ?_
     refine co_reg ?_
     refine pk0 (v := .int .i64 0) h19 rfl fun a22 h22 => ?_; clear h19
     refine pl_nil ?_
     refine co_then ?_
     refine wp_ret ?_
     refine co_ret1 h22 rfl rfl ?_
     exact ⟨ret_int (by unfold chkLs; rw [if_neg (by omega)]; exact cF_end (i := i) hL (by omega)), hB17⟩
    ·
     rw [hc20] at h19
     have hp23 : ((i : Nat) : Int) < ((l.length : Nat) : Int) := of_decide_eq_true hc20
     clear hc20
     refine co_true h19 rfl ?_
     refine wp_skip ?_
     refine co_then ?_
     refine co_seq ?_
     refine wp_block ?_
     refine co_seq ?_
     refine co_reg ?_
     obtain ⟨y24, hy24⟩ : ∃ z, l[i]? = some z := ⟨_, List.getElem?_eq_getElem (by first | omega | (simp; done) | (simp; omega))⟩
     refine pk (v := pt (blkOf v) (offOf v + i * 2)) h19 rfl (rn_index rfl rfl rfl Try.underlying35 Try.sizeOf88 (hs.below hB17) (by omega) (by first | omega | (simp; done) | (simp; omega))) fun a25 h25 => ?_; clear h19
     refine pk (v := .agg #[.string y24.1, .string y24.2]) h25 rfl (rn_loadN rfl rfl Try.underlying88 rfl (by kernel_rfl) (sl_at (hs.below hB17) hy24)) fun a26 h26 => ?_; clear h25
     refine pw h26 rfl (op_new (v := fun N => pt N 0) (T := 88) (cs := #[.string (⟨#[]⟩), .string (⟨#[]⟩)]) (by kernel_rfl) (by kernel_rfl) (by kernel_rfl)) ?_; clear h26
     rintro _ w28 a27 ⟨N29, rfl, hN32, hz33, hk31, hg30⟩ h27
     have hz34 := hg30.size
     try dsimp only at h27
     refine pwD h27 rfl (op_storeN rfl rfl rfl (by kernel_rfl) (by kernel_rfl) hk31 rfl) ?_; clear h27
     rintro _ w36 a35 ⟨hk37, hz38, hg39⟩ h35
     have hk37' : Blk w36 N29 88 #[.string y24.1, .string y24.2] := hk37; clear hk37
     have hz40 := hg39.size
     refine pl_nil ?_
     refine co_then ?_
     refine co_seq ?_
     refine co_reg ?_
     refine pk0 (v := .func (.func 118) #[] #[]) h35 rfl fun a41 h41 => ?_; clear h35
     refine pk (v := .agg #[.string y24.1, .string y24.2]) h41 rfl (rn_loadN rfl rfl Try.underlying88 rfl (by kernel_rfl) hk37'.all) fun a42 h42 => ?_; clear h41
     refine pw h42 rfl (op_call (args := #[.agg #[.string y24.1, .string y24.2]]) (R := fun res xw => res = .int .i64 (chkPair y24) ∧ Below w36.heap.size w36 xw) rfl rfl rfl (by kernel_rfl) (by kernel_rfl) (Try.call118 _ _) (mPair_any y24 w36 ) (by rintro e x ⟨rfl, hb45⟩; exact ⟨_, rfl, ⟨rfl, hb45⟩⟩)) ?_; clear h42
     rintro _ w44 a43 ⟨rfl, hb45⟩ h43
     have hz46 := hb45.size
     refine pk0 (v := .int .i64 (chkPair y24)) h43 rfl fun a47 h47 => ?_; clear h43
     refine pl_nil ?_
     refine co_then ?_
     refine co_seq ?_
     refine co_reg ?_
     refine pk0 (v := .int .i64 (chkPair y24)) h47 rfl fun a48 h48 => ?_; clear h47
     refine pk0 (v := .bool (chkPair y24 != 0)) h48 rfl fun a49 h49 => ?_; clear h48
     refine pl_nil ?_
     refine co_then ?_
     have hB51 := hb_new hB17 hg30
     have hB52 := hb_at hB51 hg39 (by omega)
     have hB53 := hb_call hB52 hb45
     cases hc50 : (chkPair y24 != 0)
     ·
      rw [hc50] at h49
      have hp54 : ¬ (chkPair y24 ≠ 0) := by first | simpa using hc50 | simpa [and_assoc] using hc50
      clear hc50
      refine co_false h49 rfl ?_
      refine wp_skip ?_
      refine co_blockN ?_
      refine co_then ?_
      refine co_reg ?_
      refine pk (v := .int .i64 ((i + 1 : Nat) : Int)) h49 rfl (rn_arith' rfl rfl rfl rfl rfl rfl (IntWalk.i64_in _ (by omega)) (by omega)) fun a55 h55 => ?_; clear h49
      refine pk0 (v := .int .i64 ((i + 1 : Nat) : Int)) h55 rfl fun a56 h56 => ?_; clear h55
      refine pl_nil ?_
      refine co_then ?_
      refine ⟨(l.length - (i + 1)), by omega, ?_⟩
      have hL' := cF_step (f := chkPair) hL hy24 (by first | omega | (unfold chkEn; omega))
      exact ⟨i + 1, h56.sub ⟨rfl, rfl, rfl, rfl, rfl, rfl, rfl, trivial⟩, rfl, by omega, by first | rfl | exact hL', hB53⟩
     ·
      rw [hc50] at h49
      have hp57 : chkPair y24 ≠ 0 := by first | simpa using hc50 | simpa [and_assoc] using hc50
      clear hc50
      refine co_true h49 rfl ?_
      refine co_seq ?_
      refine co_reg ?_
      refine pk0 (v := .int .i64 (chkPair y24)) h49 rfl fun a58 h58 => ?_; clear h49
      refine pk0 (v := .int .i64 (chkPair y24)) h58 rfl fun a59 h59 => ?_; clear h58
      refine pl_nil ?_
      refine co_then ?_
      refine wp_ret ?_
      refine co_blockR ?_
      refine co_thenR ?_
      refine co_thenR ?_
      refine co_blockR ?_
      refine co_thenR ?_
      refine co_ret1 h59 rfl rfl ?_
      exact ⟨ret_int (by unfold chkLs; rw [if_neg (by omega)]; exact cF_bad (f := chkPair) (i := i) hL hy24 (by first | omega | (unfold chkEn; omega))), hB53⟩
 ·
  rw [hc6] at h5
  have hp60 : ((l.length : Nat) : Int) > 32 := of_decide_eq_true hc6
  clear hc6
  refine co_true h5 rfl ?_
  refine co_seq ?_
  refine co_reg ?_
  refine pk0 (v := .int .i64 6) h5 rfl fun a61 h61 => ?_; clear h5
  refine pl_nil ?_
  refine co_then ?_
  refine wp_ret ?_
  refine co_thenR ?_
  refine co_ret1 h61 rfl rfl ?_
  exact ⟨ret_int (by unfold chkLs; rw [if_pos (by omega)]), hB0⟩
set_option maxRecDepth 100000 in
theorem mListS_any (v : Value) (l : List Int) (w : World) (hs : SliceOf (intE .u64) 1 w v l) (hok : ∀ z ∈ l, (fun t : Int => 0 ≤ t ∧ t < 18446744073709551616) z) :
    Calls Try.prog 115 #[v, .int .i64 8, .func (.func 116) #[] #[]] w fun e w' => e = .returned (.int .i64 (chkLs 8 chkSt l)) ∧ Below w.heap.size w w' := by
 have hB0 := Below.refl w.heap.size w
 have hl_hs := sl_len hs
 refine co_enter (n := 27) Try.func115 rfl rfl rfl [(0, v), (1, .int .i64 8), (2, .func (.func 116) #[] #[])] rfl (fun a h0 => ?_)
 refine co_seq ?_
 refine co_reg ?_
 refine pk0 (v := .int .i64 0) h0 rfl fun a1 h1 => ?_; clear h0
 refine pl_nil ?_
 refine co_then ?_
 refine co_seq ?_
 refine co_seq ?_
 refine co_reg ?_
 refine pk0 (v := v) h1 rfl fun a2 h2 => ?_; clear h1
 refine pk (v := .int .i64 ((l.length : Nat) : Int)) h2 rfl (rn_len rfl rfl Try.underlying34 hs) fun a3 h3 => ?_; clear h2
 refine pk0 (v := .int .i64 8) h3 rfl fun a4 h4 => ?_; clear h3
 refine pk0 (v := .bool (decide (((l.length : Nat) : Int) > 8))) h4 rfl fun a5 h5 => ?_; clear h4
 refine pl_nil ?_
 refine co_then ?_
 cases hc6 : (decide (((l.length : Nat) : Int) > 8))
 ·
  rw [hc6] at h5
  have hp7 : ¬ (((l.length : Nat) : Int) > 8) := of_decide_eq_false hc6
  clear hc6
  refine co_false h5 rfl ?_
  refine wp_skip ?_
  refine co_then ?_
  refine co_seq ?_
  refine co_seq ?_
  refine co_reg ?_
  refine pk0 (v := v) h5 rfl fun a8 h8 => ?_; clear h5
  refine pk (v := .int .i64 ((l.length : Nat) : Int)) h8 rfl (rn_len rfl rfl Try.underlying34 hs) fun a9 h9 => ?_; clear h8
  refine pk0 (v := .int .i64 0) h9 rfl fun a10 h10 => ?_; clear h9
  refine pl_nil ?_
  refine co_then ?_
  refine wp_block ?_
  have h11 : Slots 27 [(0, v), (1, .int .i64 8), (2, .func (.func 116) #[] #[]), (6, .int .i64 0), (14, v), (15, .int .i64 ((l.length : Nat) : Int)), (16, .int .i64 0)] _ := h10.sub ⟨rfl, rfl, rfl, rfl, rfl, rfl, rfl, trivial⟩; clear h10
  refine co_loop (fun mm a x => ∃ (i : Nat), Slots 27 [(0, v), (1, .int .i64 8), (2, .func (.func 116) #[] #[]), (6, .int .i64 0), (14, v), (15, .int .i64 ((l.length : Nat) : Int)), (16, .int .i64 ((i : Nat) : Int))] a ∧ mm = l.length - i ∧ (i ≤ l.length) ∧ (chkF chkSt (l.drop i) = chkF chkSt l) ∧ Below w.heap.size w x) (l.length - 0) ?_ ?_
  · exact ⟨0, h11.sub ⟨rfl, rfl, rfl, rfl, rfl, rfl, (slot_eq rfl (congrArg (Value.int .i64) (by first | rfl | omega))), trivial⟩, rfl, by omega, by first | rfl | exact hL', hB0⟩
  · rintro k12 a13 w14 ⟨i, h13, rfl, hi15, hi16, hB17⟩
    have hz18 := hB17.size
    have hL : chkF chkSt (l.drop i) = chkF chkSt l := by assumption
    refine co_seq ?_
    refine co_reg ?_
    refine pk0 (v := .bool (decide (((i : Nat) : Int) < ((l.length : Nat) : Int)))) h13 rfl fun a19 h19 => ?_; clear h13
    refine pl_nil ?_
    refine co_then ?_
    refine co_seq ?_
    cases hc20 : (decide (((i : Nat) : Int) < ((l.length : Nat) : Int)))
    ·
     rw [hc20] at h19
     have hp21 : ¬ (((i : Nat) : Int) < ((l.length : Nat) : Int)) := of_decide_eq_false hc20
     clear hc20
     refine co_false h19 rfl ?_
     refine wp_exit ?_
     refine co_thenX ?_
     refine co_thenX ?_
     refine co_blockX ?_
     refine co_then ?_
     refine co_seq ?_
     refine co_reg ?_
     refine pk0 (v := .int .i64 0) h19 rfl fun a22 h22 => ?_; clear h19
     refine pl_nil ?_
     refine co_then ?_
     refine wp_ret ?_
     refine co_ret1 h22 rfl rfl ?_
     exact ⟨ret_int (by unfold chkLs; rw [if_neg (by omega)]; exact cF_end (i := i) hL (by omega)), hB17⟩
    ·
     rw [hc20] at h19
     have hp23 : ((i : Nat) : Int) < ((l.length : Nat) : Int) := of_decide_eq_true hc20
     clear hc20
     refine co_true h19 rfl ?_
     refine wp_skip ?_
     refine co_then ?_
     refine co_seq ?_
     refine wp_block ?_
     refine co_seq ?_
     refine co_reg ?_
     obtain ⟨y24, hy24⟩ : ∃ z, l[i]? = some z := ⟨_, List.getElem?_eq_getElem (by first | omega | (simp; done) | (simp; omega))⟩
     have oky24 := hok _ (List.mem_of_getElem? hy24)
     have k25 : 0 ≤ y24 ∧ y24 < 18446744073709551616 := oky24
     refine pk (v := pt (blkOf v) (offOf v + i * 1)) h19 rfl (rn_index rfl rfl rfl Try.underlying34 Try.sizeOf23 (hs.below hB17) (by omega) (by first | omega | (simp; done) | (simp; omega))) fun a26 h26 => ?_; clear h19
     refine pk (v := .int .u64 y24) h26 rfl (rn_load1 rfl rfl Try.isAgg23 ((sl_at (hs.below hB17) hy24) 0 _ rfl)) fun a27 h27 => ?_; clear h26
     refine pk0 (v := .int .u64 y24) h27 rfl fun a28 h28 => ?_; clear h27
     refine pl_nil ?_
     refine co_then ?_
     refine co_seq ?_
     refine co_reg ?_
     refine pk0 (v := .func (.func 116) #[] #[]) h28 rfl fun a29 h29 => ?_; clear h28
     refine pk0 (v := .int .u64 y24) h29 rfl fun a30 h30 => ?_; clear h29
     refine pw h30 rfl (op_call (args := #[.int .u64 y24]) (R := fun res xw => res = .int .i64 (chkSt y24) ∧ Below w14.heap.size w14 xw) rfl rfl rfl (by kernel_rfl) (by kernel_rfl) (Try.call116 _ _) (mStamp_any y24 w14 ) (by rintro e x ⟨rfl, hb33⟩; exact ⟨_, rfl, ⟨rfl, hb33⟩⟩)) ?_; clear h30
     rintro _ w32 a31 ⟨rfl, hb33⟩ h31
     have hz34 := hb33.size
     refine pk0 (v := .int .i64 (chkSt y24)) h31 rfl fun a35 h35 => ?_; clear h31
     refine pl_nil ?_
     refine co_then ?_
     refine co_seq ?_
     refine co_reg ?_
     refine pk0 (v := .int .i64 (chkSt y24)) h35 rfl fun a36 h36 => ?_; clear h35
     refine pk0 (v := .bool (chkSt y24 != 0)) h36 rfl fun a37 h37 => ?_; clear h36
     refine pl_nil ?_
     refine co_then ?_
     have hB39 := hb_call hB17 hb33
     cases hc38 : (chkSt y24 != 0)
     ·
      rw [hc38] at h37
      have hp40 : ¬ (chkSt y24 ≠ 0) := by first | simpa using hc38 | simpa [and_assoc] using hc38
      clear hc38
      refine co_false h37 rfl ?_
      refine wp_skip ?_
      refine co_blockN ?_
      refine co_then ?_
      refine co_reg ?_
      refine pk (v := .int .i64 ((i + 1 : Nat) : Int)) h37 rfl (rn_arith' rfl rfl rfl rfl rfl rfl (IntWalk.i64_in _ (by omega)) (by omega)) fun a41 h41 => ?_; clear h37
      refine pk0 (v := .int .i64 ((i + 1 : Nat) : Int)) h41 rfl fun a42 h42 => ?_; clear h41
      refine pl_nil ?_
      refine co_then ?_
      refine ⟨(l.length - (i + 1)), by omega, ?_⟩
      have hL' := cF_step (f := chkSt) hL hy24 (by first | omega | (unfold chkEn; omega))
      exact ⟨i + 1, h42.sub ⟨rfl, rfl, rfl, rfl, rfl, rfl, rfl, trivial⟩, rfl, by omega, by first | rfl | exact hL', hB39⟩
     ·
      rw [hc38] at h37
      have hp43 : chkSt y24 ≠ 0 := by first | simpa using hc38 | simpa [and_assoc] using hc38
      clear hc38
      refine co_true h37 rfl ?_
      refine co_seq ?_
      refine co_reg ?_
      refine pk0 (v := .int .i64 (chkSt y24)) h37 rfl fun a44 h44 => ?_; clear h37
      refine pk0 (v := .int .i64 (chkSt y24)) h44 rfl fun a45 h45 => ?_; clear h44
      refine pl_nil ?_
      refine co_then ?_
      refine wp_ret ?_
      refine co_blockR ?_
      refine co_thenR ?_
      refine co_thenR ?_
      refine co_blockR ?_
      refine co_thenR ?_
      refine co_ret1 h45 rfl rfl ?_
      exact ⟨ret_int (by unfold chkLs; rw [if_neg (by omega)]; exact cF_bad (f := chkSt) (i := i) hL hy24 (by first | omega | (unfold chkEn; omega))), hB39⟩
 ·
  rw [hc6] at h5
  have hp46 : ((l.length : Nat) : Int) > 8 := of_decide_eq_true hc6
  clear hc6
  refine co_true h5 rfl ?_
  refine co_seq ?_
  refine co_reg ?_
  refine pk0 (v := .int .i64 6) h5 rfl fun a47 h47 => ?_; clear h5
  refine pl_nil ?_
  refine co_then ?_
  refine wp_ret ?_
  refine co_thenR ?_
  refine co_ret1 h47 rfl rfl ?_
  exact ⟨ret_int (by unfold chkLs; rw [if_pos (by omega)]), hB0⟩
end Go.Proofs.Ytbjbcbbhmbpndaa

/- Package mess: Check. Conditions: none. -/
namespace Go.Proofs.Ytbjbcbbhmbpndaa
open Go.RowKit Go.PlainAid
set_option linter.unusedVariables false


theorem byteAt_pstr {k : Int} {i : Nat} (h : i < (pstr k).size) : ∃ c, (ptL k)[i]? = some c ∧ byteAt (pstr k) i = ((c.toNat : Nat) : Int) := by
  have h' : i < (ptL k).length := by simpa [pstr, ByteArray.size] using h
  refine ⟨(ptL k)[i], List.getElem?_eq_getElem h', ?_⟩
  unfold byteAt pstr
  simp [h']
theorem pstr_len (k : Int) : (pstr k).size = (ptL k).length := by simp [pstr, ByteArray.size]
theorem ptL_all (k : Int) : (ptL k).all (fun c => decide (c.toNat < 128)) = true := by
  unfold ptL
  repeat' split
  all_goals rfl
theorem ptL_ascii (k : Int) : ∀ c ∈ ptL k, c.toNat < 128 := fun c hc => of_decide_eq_true (List.all_eq_true.1 (ptL_all k) c hc)
theorem pstr_ascii (k : Int) : Ascii (pstr k) := by
  intro i h
  have h' : i < (ptL k).length := by rw [← pstr_len]; exact h
  have e : (pstr k)[i]'h = ((ptL k).toArray)[i]'(by simpa using h') := rfl
  rw [e, List.getElem_toArray]
  exact ptL_ascii k _ (List.getElem_mem h')
def cP (d : MsgD) (c : UInt8) : Int := chkP d (c.toNat : Int)
def chkMg (d : MsgD) : Int := if 1 ≤ d.k ∧ d.k ≤ 15 then chkF (cP d) (ptL d.k) else 11
theorem cp_x {d : MsgD} {p : Int} (h : p = 120) : chkP d p = if d.e < 0 ∨ d.e > 21 then 1 else 0 := by unfold chkP; rw [if_pos h]
theorem cp_n {d : MsgD} {p : Int} (h : p = 101 ∨ p = 115 ∨ p = 113 ∨ p = 110 ∨ p = 109 ∨ p = 112) : chkP d p = if numP d p < 0 ∨ numP d p > 1073741824 then 5 else 0 := by unfold chkP; rw [if_neg (by omega), if_pos (show numL p from h)]
theorem nn {p : Int} (h : ¬ (p = 101 ∨ p = 115 ∨ p = 113 ∨ p = 110 ∨ p = 109 ∨ p = 112)) : ¬ numL p := h
theorem cp_k {d : MsgD} {p : Int} (h : p = 107) : chkP d p = if (d.key.size : Int) > 8 then 3 else 0 := by unfold chkP; rw [if_neg (by omega), if_neg (nn (by omega)), if_pos h]
theorem cp_t {d : MsgD} {p : Int} (h : p = 116) : chkP d p = if (d.to_.size : Int) > 8 then 3 else 0 := by unfold chkP; rw [if_neg (by omega), if_neg (nn (by omega)), if_neg (by omega), if_pos h]
theorem cp_C {d : MsgD} {p : Int} (h : p = 67) : chkP d p = chkC d.cep d.cms := by unfold chkP; rw [if_neg (by omega), if_neg (nn (by omega)), if_neg (by omega), if_neg (by omega), if_pos h]
theorem cp_B {d : MsgD} {p : Int} (h : p = 66) : chkP d p = chkB d.bc d.br d.bl := by unfold chkP; rw [if_neg (by omega), if_neg (nn (by omega)), if_neg (by omega), if_neg (by omega), if_neg (by omega), if_pos h]
theorem cp_L {d : MsgD} {p : Int} (h : p = 76) : chkP d p = chkLs 4 chkEn d.en := by unfold chkP; rw [if_neg (by omega), if_neg (nn (by omega)), if_neg (by omega), if_neg (by omega), if_neg (by omega), if_neg (by omega), if_pos h]
theorem cp_S {d : MsgD} {p : Int} (h : p = 83) : chkP d p = chkLs 8 chkSt d.st := by unfold chkP; rw [if_neg (by omega), if_neg (nn (by omega)), if_neg (by omega), if_neg (by omega), if_neg (by omega), if_neg (by omega), if_neg (by omega), if_pos h]
theorem cp_R {d : MsgD} {p : Int} (h : p = 82) : chkP d p = chkLs 32 chkPair d.pr := by unfold chkP; rw [if_neg (by omega), if_neg (nn (by omega)), if_neg (by omega), if_neg (by omega), if_neg (by omega), if_neg (by omega), if_neg (by omega), if_neg (by omega), if_pos h]
theorem cp_0 {d : MsgD} {p : Int} (h : ¬ (p = 120 ∨ (p = 101 ∨ p = 115 ∨ p = 113 ∨ p = 110 ∨ p = 109 ∨ p = 112) ∨ p = 107 ∨ p = 116 ∨ p = 67 ∨ p = 66 ∨ p = 76 ∨ p = 83 ∨ p = 82)) : chkP d p = 0 := by unfold chkP; rw [if_neg (by omega), if_neg (nn (by omega)), if_neg (by omega), if_neg (by omega), if_neg (by omega), if_neg (by omega), if_neg (by omega), if_neg (by omega), if_neg (by omega)]

set_option maxRecDepth 100000 in
theorem mListE_any (v : Value) (l : List EntT) (w : World) (hs : SliceOf entE 4 w v l) (hok : ∀ z ∈ l, EntOk w z) :
    Calls Try.prog 113 #[v, .int .i64 4, .func (.func 114) #[] #[]] w fun e w' => e = .returned (.int .i64 (chkLs 4 chkEn l)) ∧ Below w.heap.size w w' := by
 have hB0 := Below.refl w.heap.size w
 have hl_hs := sl_len hs
 refine co_enter (n := 27) Try.func113 rfl rfl rfl [(0, v), (1, .int .i64 4), (2, .func (.func 114) #[] #[])] rfl (fun a h0 => ?_)
 refine co_seq ?_
 refine co_reg ?_
 refine pk0 (v := .int .i64 0) h0 rfl fun a1 h1 => ?_; clear h0
 refine pl_nil ?_
 refine co_then ?_
 refine co_seq ?_
 refine co_seq ?_
 refine co_reg ?_
 refine pk0 (v := v) h1 rfl fun a2 h2 => ?_; clear h1
 refine pk (v := .int .i64 ((l.length : Nat) : Int)) h2 rfl (rn_len rfl rfl Try.underlying33 hs) fun a3 h3 => ?_; clear h2
 refine pk0 (v := .int .i64 4) h3 rfl fun a4 h4 => ?_; clear h3
 refine pk0 (v := .bool (decide (((l.length : Nat) : Int) > 4))) h4 rfl fun a5 h5 => ?_; clear h4
 refine pl_nil ?_
 refine co_then ?_
 cases hc6 : (decide (((l.length : Nat) : Int) > 4))
 ·
  rw [hc6] at h5
  have hp7 : ¬ (((l.length : Nat) : Int) > 4) := of_decide_eq_false hc6
  clear hc6
  refine co_false h5 rfl ?_
  refine wp_skip ?_
  refine co_then ?_
  refine co_seq ?_
  refine co_seq ?_
  refine co_reg ?_
  refine pk0 (v := v) h5 rfl fun a8 h8 => ?_; clear h5
  refine pk (v := .int .i64 ((l.length : Nat) : Int)) h8 rfl (rn_len rfl rfl Try.underlying33 hs) fun a9 h9 => ?_; clear h8
  refine pk0 (v := .int .i64 0) h9 rfl fun a10 h10 => ?_; clear h9
  refine pl_nil ?_
  refine co_then ?_
  refine wp_block ?_
  have h11 : Slots 27 [(0, v), (1, .int .i64 4), (2, .func (.func 114) #[] #[]), (6, .int .i64 0), (14, v), (15, .int .i64 ((l.length : Nat) : Int)), (16, .int .i64 0)] _ := h10.sub ⟨rfl, rfl, rfl, rfl, rfl, rfl, rfl, trivial⟩; clear h10
  refine co_loop (fun mm a x => ∃ (i : Nat), Slots 27 [(0, v), (1, .int .i64 4), (2, .func (.func 114) #[] #[]), (6, .int .i64 0), (14, v), (15, .int .i64 ((l.length : Nat) : Int)), (16, .int .i64 ((i : Nat) : Int))] a ∧ mm = l.length - i ∧ (i ≤ l.length) ∧ (chkF chkEn (l.drop i) = chkF chkEn l) ∧ Below w.heap.size w x) (l.length - 0) ?_ ?_
  · exact ⟨0, h11.sub ⟨rfl, rfl, rfl, rfl, rfl, rfl, (slot_eq rfl (congrArg (Value.int .i64) (by first | rfl | omega))), trivial⟩, rfl, by omega, by first | rfl | exact hL', hB0⟩
  · rintro k12 a13 w14 ⟨i, h13, rfl, hi15, hi16, hB17⟩
    have hz18 := hB17.size
    have hL : chkF chkEn (l.drop i) = chkF chkEn l := by assumption
    refine co_seq ?_
    refine co_reg ?_
    refine pk0 (v := .bool (decide (((i : Nat) : Int) < ((l.length : Nat) : Int)))) h13 rfl fun a19 h19 => ?_; clear h13
    refine pl_nil ?_
    refine co_then ?_
    refine co_seq ?_
    cases hc20 : (decide (((i : Nat) : Int) < ((l.length : Nat) : Int)))
    ·
     rw [hc20] at h19
     have hp21 : ¬ (((i : Nat) : Int) < ((l.length : Nat) : Int)) := of_decide_eq_false hc20
     clear hc20
     refine co_false h19 rfl ?_
     refine wp_exit ?_
     refine co_thenX ?_
     refine co_thenX ?_
     refine co_blockX ?_
     refine co_then ?_
     refine co_seq ?_
     refine co_reg ?_
     refine pk0 (v := .int .i64 0) h19 rfl fun a22 h22 => ?_; clear h19
     refine pl_nil ?_
     refine co_then ?_
     refine wp_ret ?_
     refine co_ret1 h22 rfl rfl ?_
     exact ⟨ret_int (by unfold chkLs; rw [if_neg (by omega)]; exact cF_end (i := i) hL (by omega)), hB17⟩
    ·
     rw [hc20] at h19
     have hp23 : ((i : Nat) : Int) < ((l.length : Nat) : Int) := of_decide_eq_true hc20
     clear hc20
     refine co_true h19 rfl ?_
     refine wp_skip ?_
     refine co_then ?_
     refine co_seq ?_
     refine wp_block ?_
     refine co_seq ?_
     refine co_reg ?_
     obtain ⟨y24, hy24⟩ : ∃ z, l[i]? = some z := ⟨_, List.getElem?_eq_getElem (by first | omega | (simp; done) | (simp; omega))⟩
     have oky24 := hok _ (List.mem_of_getElem? hy24)
     have k25 : 0 ≤ y24.ts := oky24.ts0
     have k26 : y24.ts < 18446744073709551616 := oky24.ts1
     refine pk (v := pt (blkOf v) (offOf v + i * 4)) h19 rfl (rn_index rfl rfl rfl Try.underlying33 Try.sizeOf154 (hs.below hB17) (by omega) (by first | omega | (simp; done) | (simp; omega))) fun a27 h27 => ?_; clear h19
     refine pk (v := .agg #[.int .i64 y24.client, .int .i64 y24.req, y24.ops, .int .u64 y24.ts]) h27 rfl (rn_loadN rfl rfl Try.underlying154 rfl (by kernel_rfl) (sl_at (hs.below hB17) hy24)) fun a28 h28 => ?_; clear h27
     refine pw h28 rfl (op_new (v := fun N => pt N 0) (T := 154) (cs := #[.int .i64 0, .int .i64 0, .slice none 0 0, .int .u64 0]) (by kernel_rfl) (by kernel_rfl) (by kernel_rfl)) ?_; clear h28
     rintro _ w30 a29 ⟨N31, rfl, hN34, hz35, hk33, hg32⟩ h29
     have hz36 := hg32.size
     try dsimp only at h29
     have hB42 := hb_new hB17 hg32
     refine pwD h29 rfl (op_storeN rfl rfl rfl (all_cons rfl (all_cons rfl (all_cons (sl_one (oky24.ops.below hB42)) (all_cons rfl all_nil)))) (by kernel_rfl) hk33 rfl) ?_; clear h29
     rintro _ w38 a37 ⟨hk39, hz40, hg41⟩ h37
     have hk39' : Blk w38 N31 154 #[.int .i64 y24.client, .int .i64 y24.req, y24.ops, .int .u64 y24.ts] := hk39; clear hk39
     have hz43 := hg41.size
     refine pl_nil ?_
     refine co_then ?_
     refine co_seq ?_
     refine co_reg ?_
     refine pk0 (v := .func (.func 114) #[] #[]) h37 rfl fun a44 h44 => ?_; clear h37
     refine pk (v := .agg #[.int .i64 y24.client, .int .i64 y24.req, y24.ops, .int .u64 y24.ts]) h44 rfl (rn_loadN rfl rfl Try.underlying154 rfl (by kernel_rfl) hk39'.all) fun a45 h45 => ?_; clear h44
     have hB48 := hb_at hB42 hg41 (by omega)
     refine pw h45 rfl (op_call (args := #[.agg #[.int .i64 y24.client, .int .i64 y24.req, y24.ops, .int .u64 y24.ts]]) (R := fun res xw => res = .int .i64 (chkB y24.client y24.req y24.opl) ∧ Below w38.heap.size w38 xw) rfl rfl rfl (by kernel_rfl) (by kernel_rfl) (Try.call114 _ _) (itemCheck_any y24.client y24.req y24.ops y24.opl y24.ts w38 (oky24.ops.below hB48)) (by rintro e x ⟨rfl, hb49⟩; exact ⟨_, rfl, ⟨rfl, hb49⟩⟩)) ?_; clear h45
     rintro _ w47 a46 ⟨rfl, hb49⟩ h46
     have hz50 := hb49.size
     refine pk0 (v := .int .i64 (chkB y24.client y24.req y24.opl)) h46 rfl fun a51 h51 => ?_; clear h46
     refine pl_nil ?_
     refine co_then ?_
     refine co_seq ?_
     refine co_reg ?_
     refine pk0 (v := .int .i64 (chkB y24.client y24.req y24.opl)) h51 rfl fun a52 h52 => ?_; clear h51
     refine pk0 (v := .bool (chkB y24.client y24.req y24.opl != 0)) h52 rfl fun a53 h53 => ?_; clear h52
     refine pl_nil ?_
     refine co_then ?_
     have hB55 := hb_call hB48 hb49
     cases hc54 : (chkB y24.client y24.req y24.opl != 0)
     ·
      rw [hc54] at h53
      have hp56 : ¬ (chkB y24.client y24.req y24.opl ≠ 0) := by first | simpa using hc54 | simpa [and_assoc] using hc54
      clear hc54
      refine co_false h53 rfl ?_
      refine wp_skip ?_
      refine co_blockN ?_
      refine co_then ?_
      refine co_reg ?_
      refine pk (v := .int .i64 ((i + 1 : Nat) : Int)) h53 rfl (rn_arith' rfl rfl rfl rfl rfl rfl (IntWalk.i64_in _ (by omega)) (by omega)) fun a57 h57 => ?_; clear h53
      refine pk0 (v := .int .i64 ((i + 1 : Nat) : Int)) h57 rfl fun a58 h58 => ?_; clear h57
      refine pl_nil ?_
      refine co_then ?_
      refine ⟨(l.length - (i + 1)), by omega, ?_⟩
      have hL' := cF_step (f := chkEn) hL hy24 (by first | omega | (unfold chkEn; omega))
      exact ⟨i + 1, h58.sub ⟨rfl, rfl, rfl, rfl, rfl, rfl, rfl, trivial⟩, rfl, by omega, by first | rfl | exact hL', hB55⟩
     ·
      rw [hc54] at h53
      have hp59 : chkB y24.client y24.req y24.opl ≠ 0 := by first | simpa using hc54 | simpa [and_assoc] using hc54
      clear hc54
      refine co_true h53 rfl ?_
      refine co_seq ?_
      refine co_reg ?_
      refine pk0 (v := .int .i64 (chkB y24.client y24.req y24.opl)) h53 rfl fun a60 h60 => ?_; clear h53
      refine pk0 (v := .int .i64 (chkB y24.client y24.req y24.opl)) h60 rfl fun a61 h61 => ?_; clear h60
      refine pl_nil ?_
      refine co_then ?_
      refine wp_ret ?_
      refine co_blockR ?_
      refine co_thenR ?_
      refine co_thenR ?_
      refine co_blockR ?_
      refine co_thenR ?_
      refine co_ret1 h61 rfl rfl ?_
      exact ⟨ret_int (by unfold chkLs; rw [if_neg (by omega)]; exact cF_bad (f := chkEn) (i := i) hL hy24 (by first | omega | (unfold chkEn; omega))), hB55⟩
 ·
  rw [hc6] at h5
  have hp62 : ((l.length : Nat) : Int) > 4 := of_decide_eq_true hc6
  clear hc6
  refine co_true h5 rfl ?_
  refine co_seq ?_
  refine co_reg ?_
  refine pk0 (v := .int .i64 6) h5 rfl fun a63 h63 => ?_; clear h5
  refine pl_nil ?_
  refine co_then ?_
  refine wp_ret ?_
  refine co_thenR ?_
  refine co_ret1 h63 rfl rfl ?_
  exact ⟨ret_int (by unfold chkLs; rw [if_pos (by omega)]), hB0⟩
set_option maxRecDepth 100000 in
theorem mTextK_any (B : Nat) (p : Int) (w : World) (hp : p = 107) :
    Calls Try.prog 111 #[pt B 0, .int .i32 p] w fun e w' => e = .returned (pt B 11) ∧ Below w.heap.size w w' := by
 have hB0 := Below.refl w.heap.size w
 refine co_enter (n := 13) Try.func111 rfl rfl rfl [(0, pt B 0), (1, .int .i32 p)] rfl (fun a h0 => ?_)
 refine co_seq ?_
 refine co_reg ?_
 refine pk0 (v := .pointer none) h0 rfl fun a1 h1 => ?_; clear h0
 refine pl_nil ?_
 refine co_then ?_
 refine co_seq ?_
 refine co_seq ?_
 refine co_reg ?_
 refine pk0 (v := .int .i32 p) h1 rfl fun a2 h2 => ?_; clear h1
 refine pk0 (v := .bool (p == 107)) h2 rfl fun a3 h3 => ?_; clear h2
 refine pl_nil ?_
 refine co_then ?_
 have hc4 : (p == 107) = true := by first | (simp; done) | (simp; omega)
 rw [hc4] at h3; clear hc4
 refine co_true h3 rfl ?_
 refine co_seq ?_
 refine co_reg ?_
 refine pk0 (v := pt B 0) h3 rfl fun a5 h5 => ?_; clear h3
 refine pk0 (v := pt B 0) h5 rfl fun a6 h6 => ?_; clear h5
 refine pk0 (v := pt B 11) h6 rfl fun a7 h7 => ?_; clear h6
 refine pk0 (v := pt B 11) h7 rfl fun a8 h8 => ?_; clear h7
 refine pl_nil ?_
 refine co_then ?_
 refine wp_ret ?_
 refine co_thenR ?_
 refine co_ret1 h8 rfl rfl ?_
 exact ⟨rfl, hB0⟩
set_option maxRecDepth 100000 in
theorem mTextT_any (B : Nat) (p : Int) (w : World) (hp : p = 116) :
    Calls Try.prog 111 #[pt B 0, .int .i32 p] w fun e w' => e = .returned (pt B 12) ∧ Below w.heap.size w w' := by
 have hB0 := Below.refl w.heap.size w
 refine co_enter (n := 13) Try.func111 rfl rfl rfl [(0, pt B 0), (1, .int .i32 p)] rfl (fun a h0 => ?_)
 refine co_seq ?_
 refine co_reg ?_
 refine pk0 (v := .pointer none) h0 rfl fun a1 h1 => ?_; clear h0
 refine pl_nil ?_
 refine co_then ?_
 refine co_seq ?_
 refine co_seq ?_
 refine co_reg ?_
 refine pk0 (v := .int .i32 p) h1 rfl fun a2 h2 => ?_; clear h1
 refine pk0 (v := .bool (p == 107)) h2 rfl fun a3 h3 => ?_; clear h2
 refine pl_nil ?_
 refine co_then ?_
 have hc4 : (p == 107) = false := by first | (simp; done) | (simp; omega)
 rw [hc4] at h3; clear hc4
 refine co_false h3 rfl ?_
 refine wp_skip ?_
 refine co_then ?_
 refine co_seq ?_
 refine co_reg ?_
 refine pk0 (v := pt B 0) h3 rfl fun a5 h5 => ?_; clear h3
 refine pk0 (v := pt B 0) h5 rfl fun a6 h6 => ?_; clear h5
 refine pk0 (v := pt B 12) h6 rfl fun a7 h7 => ?_; clear h6
 refine pk0 (v := pt B 12) h7 rfl fun a8 h8 => ?_; clear h7
 refine pl_nil ?_
 refine co_then ?_
 refine wp_ret ?_
 refine co_ret1 h8 rfl rfl ?_
 exact ⟨rfl, hB0⟩
set_option maxRecDepth 100000 in
theorem mCheckP_any (B : Nat) (d : MsgD) (mv : Value) (bv : Value) (ev : Value) (sv : Value) (pv : Value) (p : Int) (w : World) (hB : Blk w B 37 #[.int .i64 d.k, .int .i64 d.ep, .int .i64 d.rq, .int .i64 d.sr, .bool d.fg, .int .u64 d.at_, .int .u64 d.la, .int .i64 d.n, .int .i64 d.m, .int .i64 d.p, .int .i64 d.e, .string d.key, .string d.to_, .int .i64 d.cep, mv, .int .u64 d.cfl, .int .i64 d.bc, .int .i64 d.br, bv, ev, sv, pv]) (hm : SliceOf memE 2 w mv d.cms) (hb : SliceOf opE 3 w bv d.bl) (he : SliceOf entE 4 w ev d.en) (ht : SliceOf (intE .u64) 1 w sv d.st) (hp : SliceOf prE 2 w pv d.pr) (hok : ∀ z ∈ d.en, EntOk w z) (hR : MsgR d) :
    Calls Try.prog 86 #[pt B 0, .int .i32 p] w fun e w' => e = .returned (.int .i64 (chkP d p)) ∧ Below w.heap.size w w' := by
 have hrng := hR.rng
 have hnp := np_7 (d := d) (p := p)
 have hB0 := Below.refl w.heap.size w
 have hl_hB := hB.lt
 have hl_hm := sl_len hm
 have hl_hb := sl_len hb
 have hl_he := sl_len he
 have hl_ht := sl_len ht
 have hl_hp := sl_len hp
 refine co_enter (n := 74) Try.func86 rfl rfl rfl [(0, pt B 0), (1, .int .i32 p)] rfl (fun a h0 => ?_)
 refine co_seq ?_
 refine co_reg ?_
 refine pk0 (v := .int .i64 0) h0 rfl fun a1 h1 => ?_; clear h0
 refine pl_nil ?_
 refine co_then ?_
 refine co_seq ?_
 refine co_reg ?_
 refine pk0 (v := .int .i64 1073741824) h1 rfl fun a2 h2 => ?_; clear h1
 refine pk0 (v := .int .i64 5) h2 rfl fun a3 h3 => ?_; clear h2
 refine pl_nil ?_
 refine co_then ?_
 refine co_seq ?_
 refine co_seq ?_
 refine co_reg ?_
 refine pk0 (v := .int .i32 p) h3 rfl fun a4 h4 => ?_; clear h3
 refine pl_nil ?_
 refine co_then ?_
 refine wp_block ?_
 refine co_seq ?_
 refine wp_block ?_
 refine co_seq ?_
 refine wp_block ?_
 refine co_seq ?_
 refine wp_block ?_
 refine co_seq ?_
 refine wp_block ?_
 refine co_seq ?_
 refine wp_block ?_
 refine co_seq ?_
 refine wp_block ?_
 refine co_seq ?_
 refine wp_block ?_
 refine co_seq ?_
 refine wp_block ?_
 refine co_seq ?_
 refine co_seq ?_
 refine co_seq ?_
 refine co_reg ?_
 refine pk0 (v := .bool (p == 120)) h4 rfl fun a5 h5 => ?_; clear h4
 refine pk0 (v := .bool (p == 120)) h5 rfl fun a6 h6 => ?_; clear h5
 refine pl_nil ?_
 refine co_then ?_
 cases hc7 : (p == 120)
 ·
  rw [hc7] at h6
  have hp8 : ¬ (p = 120) := by first | simpa using hc7 | simpa [and_assoc] using hc7
  clear hc7
  refine co_false h6 rfl ?_
  refine wp_skip ?_
  refine co_then ?_
  refine co_seq ?_
  refine co_seq ?_
  refine co_seq ?_
  refine co_reg ?_
  refine pk0 (v := .bool (p == 101)) h6 rfl fun a9 h9 => ?_; clear h6
  refine pk0 (v := .bool (p == 101)) h9 rfl fun a10 h10 => ?_; clear h9
  refine pl_nil ?_
  refine co_then ?_
  cases hc11 : (p == 101)
  ·
   rw [hc11] at h10
   have hp12 : ¬ (p = 101) := by first | simpa using hc11 | simpa [and_assoc] using hc11
   clear hc11
   refine co_false h10 rfl ?_
   refine co_seq ?_
   refine co_reg ?_
   refine pk0 (v := .bool (p == 115)) h10 rfl fun a13 h13 => ?_; clear h10
   refine pk0 (v := .bool (p == 115)) h13 rfl fun a14 h14 => ?_; clear h13
   refine pl_nil ?_
   refine co_then ?_
   cases hc15 : (p == 115)
   ·
    rw [hc15] at h14
    have hp16 : ¬ (p = 115) := by first | simpa using hc15 | simpa [and_assoc] using hc15
    clear hc15
    refine co_false h14 rfl ?_
    refine co_seq ?_
    refine co_reg ?_
    refine pk0 (v := .bool (p == 113)) h14 rfl fun a17 h17 => ?_; clear h14
    refine pk0 (v := .bool (p == 113)) h17 rfl fun a18 h18 => ?_; clear h17
    refine pl_nil ?_
    refine co_then ?_
    cases hc19 : (p == 113)
    ·
     rw [hc19] at h18
     have hp20 : ¬ (p = 113) := by first | simpa using hc19 | simpa [and_assoc] using hc19
     clear hc19
     refine co_false h18 rfl ?_
     refine co_seq ?_
     refine co_reg ?_
     refine pk0 (v := .bool (p == 110)) h18 rfl fun a21 h21 => ?_; clear h18
     refine pk0 (v := .bool (p == 110)) h21 rfl fun a22 h22 => ?_; clear h21
     refine pl_nil ?_
     refine co_then ?_
     cases hc23 : (p == 110)
     ·
      rw [hc23] at h22
      have hp24 : ¬ (p = 110) := by first | simpa using hc23 | simpa [and_assoc] using hc23
      clear hc23
      refine co_false h22 rfl ?_
      refine co_seq ?_
      refine co_reg ?_
      refine pk0 (v := .bool (p == 109)) h22 rfl fun a25 h25 => ?_; clear h22
      refine pk0 (v := .bool (p == 109)) h25 rfl fun a26 h26 => ?_; clear h25
      refine pl_nil ?_
      refine co_then ?_
      cases hc27 : (p == 109)
      ·
       rw [hc27] at h26
       have hp28 : ¬ (p = 109) := by first | simpa using hc27 | simpa [and_assoc] using hc27
       clear hc27
       refine co_false h26 rfl ?_
       refine co_reg ?_
       refine pk0 (v := .bool (p == 112)) h26 rfl fun a29 h29 => ?_; clear h26
       refine pk0 (v := .bool (p == 112)) h29 rfl fun a30 h30 => ?_; clear h29
       refine pl_nil ?_
       refine co_then ?_
       cases hc31 : (p == 112)
       ·
        rw [hc31] at h30
        have hp32 : ¬ (p = 112) := by first | simpa using hc31 | simpa [and_assoc] using hc31
        clear hc31
        refine co_false h30 rfl ?_
        refine wp_skip ?_
        refine co_then ?_
        refine co_seq ?_
        refine co_seq ?_
        refine co_seq ?_
        refine co_reg ?_
        refine pk0 (v := .bool (p == 107)) h30 rfl fun a33 h33 => ?_; clear h30
        refine pk0 (v := .bool (p == 107)) h33 rfl fun a34 h34 => ?_; clear h33
        refine pl_nil ?_
        refine co_then ?_
        cases hc35 : (p == 107)
        ·
         rw [hc35] at h34
         have hp36 : ¬ (p = 107) := by first | simpa using hc35 | simpa [and_assoc] using hc35
         clear hc35
         refine co_false h34 rfl ?_
         refine co_reg ?_
         refine pk0 (v := .bool (p == 116)) h34 rfl fun a37 h37 => ?_; clear h34
         refine pk0 (v := .bool (p == 116)) h37 rfl fun a38 h38 => ?_; clear h37
         refine pl_nil ?_
         refine co_then ?_
         cases hc39 : (p == 116)
         ·
          rw [hc39] at h38
          have hp40 : ¬ (p = 116) := by first | simpa using hc39 | simpa [and_assoc] using hc39
          clear hc39
          refine co_false h38 rfl ?_
          refine wp_skip ?_
          refine co_then ?_
          refine co_seq ?_
          refine co_seq ?_
          refine co_reg ?_
          refine pk0 (v := .bool (p == 67)) h38 rfl fun a41 h41 => ?_; clear h38
          refine pk0 (v := .bool (p == 67)) h41 rfl fun a42 h42 => ?_; clear h41
          refine pl_nil ?_
          refine co_then ?_
          cases hc43 : (p == 67)
          ·
           rw [hc43] at h42
           have hp44 : ¬ (p = 67) := by first | simpa using hc43 | simpa [and_assoc] using hc43
           clear hc43
           refine co_false h42 rfl ?_
           refine wp_skip ?_
           refine co_then ?_
           refine co_seq ?_
           refine co_seq ?_
           refine co_reg ?_
           refine pk0 (v := .bool (p == 66)) h42 rfl fun a45 h45 => ?_; clear h42
           refine pk0 (v := .bool (p == 66)) h45 rfl fun a46 h46 => ?_; clear h45
           refine pl_nil ?_
           refine co_then ?_
           cases hc47 : (p == 66)
           ·
            rw [hc47] at h46
            have hp48 : ¬ (p = 66) := by first | simpa using hc47 | simpa [and_assoc] using hc47
            clear hc47
            refine co_false h46 rfl ?_
            refine wp_skip ?_
            refine co_then ?_
            refine co_seq ?_
            refine co_seq ?_
            refine co_reg ?_
            refine pk0 (v := .bool (p == 76)) h46 rfl fun a49 h49 => ?_; clear h46
            refine pk0 (v := .bool (p == 76)) h49 rfl fun a50 h50 => ?_; clear h49
            refine pl_nil ?_
            refine co_then ?_
            cases hc51 : (p == 76)
            ·
             rw [hc51] at h50
             have hp52 : ¬ (p = 76) := by first | simpa using hc51 | simpa [and_assoc] using hc51
             clear hc51
             refine co_false h50 rfl ?_
             refine wp_skip ?_
             refine co_then ?_
             refine co_seq ?_
             refine co_seq ?_
             refine co_reg ?_
             refine pk0 (v := .bool (p == 83)) h50 rfl fun a53 h53 => ?_; clear h50
             refine pk0 (v := .bool (p == 83)) h53 rfl fun a54 h54 => ?_; clear h53
             refine pl_nil ?_
             refine co_then ?_
             cases hc55 : (p == 83)
             ·
              rw [hc55] at h54
              have hp56 : ¬ (p = 83) := by first | simpa using hc55 | simpa [and_assoc] using hc55
              clear hc55
              refine co_false h54 rfl ?_
              refine wp_skip ?_
              refine co_then ?_
              refine co_seq ?_
              refine co_reg ?_
              refine pk0 (v := .bool (p == 82)) h54 rfl fun a57 h57 => ?_; clear h54
              refine pk0 (v := .bool (p == 82)) h57 rfl fun a58 h58 => ?_; clear h57
              refine pl_nil ?_
              refine co_then ?_
              cases hc59 : (p == 82)
              ·
               rw [hc59] at h58
               have hp60 : ¬ (p = 82) := by first | simpa using hc59 | simpa [and_assoc] using hc59
               clear hc59
               refine co_false h58 rfl ?_
               refine wp_skip ?_
               refine co_then ?_
               refine wp_exit ?_
               refine co_blockY (by decide) ?_
               refine co_thenX ?_
               refine co_blockY (by decide) ?_
               refine co_thenX ?_
               refine co_blockY (by decide) ?_
               refine co_thenX ?_
               refine co_blockY (by decide) ?_
               refine co_thenX ?_
               refine co_blockY (by decide) ?_
               refine co_thenX ?_
               refine co_blockY (by decide) ?_
               refine co_thenX ?_
               refine co_blockY (by decide) ?_
               refine co_thenX ?_
               refine co_blockY (by decide) ?_
               refine co_thenX ?_
               refine co_blockX ?_
               refine co_then ?_
               refine co_seq ?_
               refine co_reg ?_
               refine pk0 (v := .int .i64 0) h58 rfl fun a61 h61 => ?_; clear h58
               refine pl_nil ?_
               refine co_then ?_
               refine wp_ret ?_
               refine co_ret1 h61 rfl rfl ?_
               exact ⟨ret_int (by rw [cp_0 (by omega)]), hB0⟩
              ·
               rw [hc59] at h58
               have hp62 : p = 82 := by first | simpa using hc59 | simpa [and_assoc] using hc59
               clear hc59
               refine co_true h58 rfl ?_
               refine wp_exit ?_
               refine co_thenX ?_
               refine co_blockY (by decide) ?_
               refine co_thenX ?_
               refine co_blockY (by decide) ?_
               refine co_thenX ?_
               refine co_blockY (by decide) ?_
               refine co_thenX ?_
               refine co_blockY (by decide) ?_
               refine co_thenX ?_
               refine co_blockY (by decide) ?_
               refine co_thenX ?_
               refine co_blockY (by decide) ?_
               refine co_thenX ?_
               refine co_blockY (by decide) ?_
               refine co_thenX ?_
               refine co_blockX ?_
               refine co_then ?_
               refine co_seq ?_
               refine co_seq ?_
               refine co_reg ?_
               refine pk0 (v := pt B 0) h58 rfl fun a63 h63 => ?_; clear h58
               refine pk0 (v := pt B 0) h63 rfl fun a64 h64 => ?_; clear h63
               refine pk0 (v := pt B 21) h64 rfl fun a65 h65 => ?_; clear h64
               refine pk (v := pv) h65 rfl (rn_load1 rfl rfl Try.isAgg35 (hB.cell rfl)) fun a66 h66 => ?_; clear h65
               refine pw h66 rfl (op_call (args := #[pv, .int .i64 32, .func (.func 118) #[] #[]]) (R := fun res xw => res = .int .i64 (chkLs 32 chkPair d.pr) ∧ Below w.heap.size w xw) rfl rfl rfl (by kernel_rfl) (by kernel_rfl) (Try.call117 _ _) (mListP_any pv d.pr w hp) (by rintro e x ⟨rfl, hb69⟩; exact ⟨_, rfl, ⟨rfl, hb69⟩⟩)) ?_; clear h66
               rintro _ w68 a67 ⟨rfl, hb69⟩ h67
               have hz70 := hb69.size
               refine pk0 (v := .int .i64 (chkLs 32 chkPair d.pr)) h67 rfl fun a71 h71 => ?_; clear h67
               refine pl_nil ?_
               refine co_then ?_
               refine wp_ret ?_
               refine co_thenR ?_
               refine co_blockR ?_
               refine co_thenR ?_
               refine co_ret1 h71 rfl rfl ?_
               have hB72 := hb_call hB0 hb69
               exact ⟨ret_int (by rw [cp_R (by omega)]), hB72⟩
             ·
              rw [hc55] at h54
              have hp73 : p = 83 := by first | simpa using hc55 | simpa [and_assoc] using hc55
              clear hc55
              refine co_true h54 rfl ?_
              refine wp_exit ?_
              refine co_thenX ?_
              refine co_thenX ?_
              refine co_blockY (by decide) ?_
              refine co_thenX ?_
              refine co_blockY (by decide) ?_
              refine co_thenX ?_
              refine co_blockY (by decide) ?_
              refine co_thenX ?_
              refine co_blockY (by decide) ?_
              refine co_thenX ?_
              refine co_blockY (by decide) ?_
              refine co_thenX ?_
              refine co_blockY (by decide) ?_
              refine co_thenX ?_
              refine co_blockX ?_
              refine co_then ?_
              refine co_seq ?_
              refine co_seq ?_
              refine co_reg ?_
              refine pk0 (v := pt B 0) h54 rfl fun a74 h74 => ?_; clear h54
              refine pk0 (v := pt B 0) h74 rfl fun a75 h75 => ?_; clear h74
              refine pk0 (v := pt B 20) h75 rfl fun a76 h76 => ?_; clear h75
              refine pk (v := sv) h76 rfl (rn_load1 rfl rfl Try.isAgg34 (hB.cell rfl)) fun a77 h77 => ?_; clear h76
              refine pw h77 rfl (op_call (args := #[sv, .int .i64 8, .func (.func 116) #[] #[]]) (R := fun res xw => res = .int .i64 (chkLs 8 chkSt d.st) ∧ Below w.heap.size w xw) rfl rfl rfl (by kernel_rfl) (by kernel_rfl) (Try.call115 _ _) (mListS_any sv d.st w ht (hR.st)) (by rintro e x ⟨rfl, hb80⟩; exact ⟨_, rfl, ⟨rfl, hb80⟩⟩)) ?_; clear h77
              rintro _ w79 a78 ⟨rfl, hb80⟩ h78
              have hz81 := hb80.size
              refine pk0 (v := .int .i64 (chkLs 8 chkSt d.st)) h78 rfl fun a82 h82 => ?_; clear h78
              refine pl_nil ?_
              refine co_then ?_
              refine wp_ret ?_
              refine co_thenR ?_
              refine co_blockR ?_
              refine co_thenR ?_
              refine co_blockR ?_
              refine co_thenR ?_
              refine co_ret1 h82 rfl rfl ?_
              have hB83 := hb_call hB0 hb80
              exact ⟨ret_int (by rw [cp_S (by omega)]), hB83⟩
            ·
             rw [hc51] at h50
             have hp84 : p = 76 := by first | simpa using hc51 | simpa [and_assoc] using hc51
             clear hc51
             refine co_true h50 rfl ?_
             refine wp_exit ?_
             refine co_thenX ?_
             refine co_thenX ?_
             refine co_blockY (by decide) ?_
             refine co_thenX ?_
             refine co_blockY (by decide) ?_
             refine co_thenX ?_
             refine co_blockY (by decide) ?_
             refine co_thenX ?_
             refine co_blockY (by decide) ?_
             refine co_thenX ?_
             refine co_blockY (by decide) ?_
             refine co_thenX ?_
             refine co_blockX ?_
             refine co_then ?_
             refine co_seq ?_
             refine co_seq ?_
             refine co_reg ?_
             refine pk0 (v := pt B 0) h50 rfl fun a85 h85 => ?_; clear h50
             refine pk0 (v := pt B 0) h85 rfl fun a86 h86 => ?_; clear h85
             refine pk0 (v := pt B 19) h86 rfl fun a87 h87 => ?_; clear h86
             refine pk (v := ev) h87 rfl (rn_load1 rfl rfl Try.isAgg33 (hB.cell rfl)) fun a88 h88 => ?_; clear h87
             refine pw h88 rfl (op_call (args := #[ev, .int .i64 4, .func (.func 114) #[] #[]]) (R := fun res xw => res = .int .i64 (chkLs 4 chkEn d.en) ∧ Below w.heap.size w xw) rfl rfl rfl (by kernel_rfl) (by kernel_rfl) (Try.call113 _ _) (mListE_any ev d.en w he hok) (by rintro e x ⟨rfl, hb91⟩; exact ⟨_, rfl, ⟨rfl, hb91⟩⟩)) ?_; clear h88
             rintro _ w90 a89 ⟨rfl, hb91⟩ h89
             have hz92 := hb91.size
             refine pk0 (v := .int .i64 (chkLs 4 chkEn d.en)) h89 rfl fun a93 h93 => ?_; clear h89
             refine pl_nil ?_
             refine co_then ?_
             refine wp_ret ?_
             refine co_thenR ?_
             refine co_blockR ?_
             refine co_thenR ?_
             refine co_blockR ?_
             refine co_thenR ?_
             refine co_blockR ?_
             refine co_thenR ?_
             refine co_ret1 h93 rfl rfl ?_
             have hB94 := hb_call hB0 hb91
             exact ⟨ret_int (by rw [cp_L (by omega)]), hB94⟩
           ·
            rw [hc47] at h46
            have hp95 : p = 66 := by first | simpa using hc47 | simpa [and_assoc] using hc47
            clear hc47
            refine co_true h46 rfl ?_
            refine wp_exit ?_
            refine co_thenX ?_
            refine co_thenX ?_
            refine co_blockY (by decide) ?_
            refine co_thenX ?_
            refine co_blockY (by decide) ?_
            refine co_thenX ?_
            refine co_blockY (by decide) ?_
            refine co_thenX ?_
            refine co_blockY (by decide) ?_
            refine co_thenX ?_
            refine co_blockX ?_
            refine co_then ?_
            refine co_seq ?_
            refine co_seq ?_
            refine co_reg ?_
            refine pk0 (v := pt B 0) h46 rfl fun a96 h96 => ?_; clear h46
            refine pk0 (v := pt B 0) h96 rfl fun a97 h97 => ?_; clear h96
            refine pk0 (v := pt B 16) h97 rfl fun a98 h98 => ?_; clear h97
            refine pk (v := .agg #[.int .i64 d.bc, .int .i64 d.br, bv]) h98 rfl (rn_loadN rfl rfl Try.underlying32 rfl (by kernel_rfl) (blk_part hB 16 (by rfl))) fun a99 h99 => ?_; clear h98
            refine pw h99 rfl (op_call (args := #[.agg #[.int .i64 d.bc, .int .i64 d.br, bv]]) (R := fun res xw => res = .int .i64 (chkB d.bc d.br d.bl) ∧ Below w.heap.size w xw) rfl rfl rfl (by kernel_rfl) (by kernel_rfl) (Try.call60 _ _) (opsCheck_any d.bc d.br bv d.bl w hb) (by rintro e x ⟨rfl, hb102⟩; exact ⟨_, rfl, ⟨rfl, hb102⟩⟩)) ?_; clear h99
            rintro _ w101 a100 ⟨rfl, hb102⟩ h100
            have hz103 := hb102.size
            refine pk0 (v := .int .i64 (chkB d.bc d.br d.bl)) h100 rfl fun a104 h104 => ?_; clear h100
            refine pl_nil ?_
            refine co_then ?_
            refine wp_ret ?_
            refine co_thenR ?_
            refine co_blockR ?_
            refine co_thenR ?_
            refine co_blockR ?_
            refine co_thenR ?_
            refine co_blockR ?_
            refine co_thenR ?_
            refine co_blockR ?_
            refine co_thenR ?_
            refine co_ret1 h104 rfl rfl ?_
            have hB105 := hb_call hB0 hb102
            exact ⟨ret_int (by rw [cp_B (by omega)]), hB105⟩
          ·
           rw [hc43] at h42
           have hp106 : p = 67 := by first | simpa using hc43 | simpa [and_assoc] using hc43
           clear hc43
           refine co_true h42 rfl ?_
           refine wp_exit ?_
           refine co_thenX ?_
           refine co_thenX ?_
           refine co_blockY (by decide) ?_
           refine co_thenX ?_
           refine co_blockY (by decide) ?_
           refine co_thenX ?_
           refine co_blockY (by decide) ?_
           refine co_thenX ?_
           refine co_blockX ?_
           refine co_then ?_
           refine co_seq ?_
           refine co_seq ?_
           refine co_reg ?_
           refine pk0 (v := pt B 0) h42 rfl fun a107 h107 => ?_; clear h42
           refine pk0 (v := pt B 0) h107 rfl fun a108 h108 => ?_; clear h107
           refine pk0 (v := pt B 13) h108 rfl fun a109 h109 => ?_; clear h108
           refine pk (v := .agg #[.int .i64 d.cep, mv, .int .u64 d.cfl]) h109 rfl (rn_loadN rfl rfl Try.underlying29 rfl (by kernel_rfl) (blk_part hB 13 (by rfl))) fun a110 h110 => ?_; clear h109
           refine pw h110 rfl (op_call (args := #[.agg #[.int .i64 d.cep, mv, .int .u64 d.cfl]]) (R := fun res xw => res = .int .i64 (chkC d.cep d.cms) ∧ Below w.heap.size w xw) rfl rfl rfl (by kernel_rfl) (by kernel_rfl) (Try.call112 _ _) (wcheck_any d.cep mv d.cms d.cfl w hm hR.mem (by omega) (by omega)) (by rintro e x ⟨rfl, hb113⟩; exact ⟨_, rfl, ⟨rfl, hb113⟩⟩)) ?_; clear h110
           rintro _ w112 a111 ⟨rfl, hb113⟩ h111
           have hz114 := hb113.size
           refine pk0 (v := .int .i64 (chkC d.cep d.cms)) h111 rfl fun a115 h115 => ?_; clear h111
           refine pl_nil ?_
           refine co_then ?_
           refine wp_ret ?_
           refine co_thenR ?_
           refine co_blockR ?_
           refine co_thenR ?_
           refine co_blockR ?_
           refine co_thenR ?_
           refine co_blockR ?_
           refine co_thenR ?_
           refine co_blockR ?_
           refine co_thenR ?_
           refine co_blockR ?_
           refine co_thenR ?_
           refine co_ret1 h115 rfl rfl ?_
           have hB116 := hb_call hB0 hb113
           exact ⟨ret_int (by rw [cp_C (by omega)]), hB116⟩
         ·
          rw [hc39] at h38
          have hp117 : p = 116 := by first | simpa using hc39 | simpa [and_assoc] using hc39
          clear hc39
          refine co_true h38 rfl ?_
          refine wp_exit ?_
          refine co_thenX ?_
          refine co_thenX ?_
          refine co_blockY (by decide) ?_
          refine co_thenX ?_
          refine co_blockY (by decide) ?_
          refine co_thenX ?_
          refine co_blockX ?_
          refine co_then ?_
          refine co_seq ?_
          refine co_seq ?_
          refine co_reg ?_
          refine pk0 (v := pt B 0) h38 rfl fun a118 h118 => ?_; clear h38
          refine pk0 (v := .int .i32 p) h118 rfl fun a119 h119 => ?_; clear h118
          refine pw h119 rfl (op_call (args := #[pt B 0, .int .i32 p]) (R := fun res xw => res = pt B 12 ∧ Below w.heap.size w xw) rfl rfl rfl (by kernel_rfl) (by kernel_rfl) (Try.call111 _ _) (mTextT_any B p w (by omega)) (by rintro e x ⟨rfl, hb122⟩; exact ⟨_, rfl, ⟨rfl, hb122⟩⟩)) ?_; clear h119
          rintro _ w121 a120 ⟨rfl, hb122⟩ h120
          have hz123 := hb122.size
          refine pk0 (v := pt B 12) h120 rfl fun a124 h124 => ?_; clear h120
          have hk125 := hB.below hb122
          refine pk (v := .string d.to_) h124 rfl (rn_load1 rfl rfl Try.isAgg9 (hk125.cell rfl)) fun a126 h126 => ?_; clear h124
          refine pk (v := .int .i64 ((d.to_.size : Nat) : Int)) h126 rfl (rn_lenStr rfl rfl Try.underlying9) fun a127 h127 => ?_; clear h126
          refine pk0 (v := .bool (decide (((d.to_.size : Nat) : Int) > 8))) h127 rfl fun a128 h128 => ?_; clear h127
          refine pl_nil ?_
          refine co_then ?_
          have hB130 := hb_call hB0 hb122
          cases hc129 : (decide (((d.to_.size : Nat) : Int) > 8))
          ·
           rw [hc129] at h128
           have hp131 : ¬ (((d.to_.size : Nat) : Int) > 8) := of_decide_eq_false hc129
           clear hc129
           refine co_false h128 rfl ?_
           refine wp_skip ?_
           refine co_then ?_
           refine wp_exit ?_
           refine co_blockY (by decide) ?_
           refine co_thenX ?_
           refine co_blockY (by decide) ?_
           refine co_thenX ?_
           refine co_blockY (by decide) ?_
           refine co_thenX ?_
           refine co_blockY (by decide) ?_
           refine co_thenX ?_
           refine co_blockY (by decide) ?_
           refine co_thenX ?_
           refine co_blockX ?_
           refine co_then ?_
           refine co_seq ?_
           refine co_reg ?_
           refine pk0 (v := .int .i64 0) h128 rfl fun a132 h132 => ?_; clear h128
           refine pl_nil ?_
           refine co_then ?_
           refine wp_ret ?_
           refine co_ret1 h132 rfl rfl ?_
           exact ⟨ret_int (by rw [cp_t (by omega)]; first | rw [if_pos (by omega)] | rw [if_neg (by omega)]), hB130⟩
          ·
           rw [hc129] at h128
           have hp133 : ((d.to_.size : Nat) : Int) > 8 := of_decide_eq_true hc129
           clear hc129
           refine co_true h128 rfl ?_
           refine co_seq ?_
           refine co_reg ?_
           refine pk0 (v := .int .i64 3) h128 rfl fun a134 h134 => ?_; clear h128
           refine pl_nil ?_
           refine co_then ?_
           refine wp_ret ?_
           refine co_thenR ?_
           refine co_blockR ?_
           refine co_thenR ?_
           refine co_blockR ?_
           refine co_thenR ?_
           refine co_blockR ?_
           refine co_thenR ?_
           refine co_blockR ?_
           refine co_thenR ?_
           refine co_blockR ?_
           refine co_thenR ?_
           refine co_blockR ?_
           refine co_thenR ?_
           refine co_ret1 h134 rfl rfl ?_
           exact ⟨ret_int (by rw [cp_t (by omega)]; first | rw [if_pos (by omega)] | rw [if_neg (by omega)]), hB130⟩
        ·
         rw [hc35] at h34
         have hp135 : p = 107 := by first | simpa using hc35 | simpa [and_assoc] using hc35
         clear hc35
         refine co_true h34 rfl ?_
         refine wp_skip ?_
         refine co_then ?_
         refine co_true h34 rfl ?_
         refine wp_exit ?_
         refine co_thenX ?_
         refine co_thenX ?_
         refine co_blockY (by decide) ?_
         refine co_thenX ?_
         refine co_blockY (by decide) ?_
         refine co_thenX ?_
         refine co_blockX ?_
         refine co_then ?_
         refine co_seq ?_
         refine co_seq ?_
         refine co_reg ?_
         refine pk0 (v := pt B 0) h34 rfl fun a136 h136 => ?_; clear h34
         refine pk0 (v := .int .i32 p) h136 rfl fun a137 h137 => ?_; clear h136
         refine pw h137 rfl (op_call (args := #[pt B 0, .int .i32 p]) (R := fun res xw => res = pt B 11 ∧ Below w.heap.size w xw) rfl rfl rfl (by kernel_rfl) (by kernel_rfl) (Try.call111 _ _) (mTextK_any B p w (by omega)) (by rintro e x ⟨rfl, hb140⟩; exact ⟨_, rfl, ⟨rfl, hb140⟩⟩)) ?_; clear h137
         rintro _ w139 a138 ⟨rfl, hb140⟩ h138
         have hz141 := hb140.size
         refine pk0 (v := pt B 11) h138 rfl fun a142 h142 => ?_; clear h138
         have hk143 := hB.below hb140
         refine pk (v := .string d.key) h142 rfl (rn_load1 rfl rfl Try.isAgg9 (hk143.cell rfl)) fun a144 h144 => ?_; clear h142
         refine pk (v := .int .i64 ((d.key.size : Nat) : Int)) h144 rfl (rn_lenStr rfl rfl Try.underlying9) fun a145 h145 => ?_; clear h144
         refine pk0 (v := .bool (decide (((d.key.size : Nat) : Int) > 8))) h145 rfl fun a146 h146 => ?_; clear h145
         refine pl_nil ?_
         refine co_then ?_
         have hB148 := hb_call hB0 hb140
         cases hc147 : (decide (((d.key.size : Nat) : Int) > 8))
         ·
          rw [hc147] at h146
          have hp149 : ¬ (((d.key.size : Nat) : Int) > 8) := of_decide_eq_false hc147
          clear hc147
          refine co_false h146 rfl ?_
          refine wp_skip ?_
          refine co_then ?_
          refine wp_exit ?_
          refine co_blockY (by decide) ?_
          refine co_thenX ?_
          refine co_blockY (by decide) ?_
          refine co_thenX ?_
          refine co_blockY (by decide) ?_
          refine co_thenX ?_
          refine co_blockY (by decide) ?_
          refine co_thenX ?_
          refine co_blockY (by decide) ?_
          refine co_thenX ?_
          refine co_blockX ?_
          refine co_then ?_
          refine co_seq ?_
          refine co_reg ?_
          refine pk0 (v := .int .i64 0) h146 rfl fun a150 h150 => ?_; clear h146
          refine pl_nil ?_
          refine co_then ?_
          refine wp_ret ?_
          refine co_ret1 h150 rfl rfl ?_
          exact ⟨ret_int (by rw [cp_k (by omega)]; first | rw [if_pos (by omega)] | rw [if_neg (by omega)]), hB148⟩
         ·
          rw [hc147] at h146
          have hp151 : ((d.key.size : Nat) : Int) > 8 := of_decide_eq_true hc147
          clear hc147
          refine co_true h146 rfl ?_
          refine co_seq ?_
          refine co_reg ?_
          refine pk0 (v := .int .i64 3) h146 rfl fun a152 h152 => ?_; clear h146
          refine pl_nil ?_
          refine co_then ?_
          refine wp_ret ?_
          refine co_thenR ?_
          refine co_blockR ?_
          refine co_thenR ?_
          refine co_blockR ?_
          refine co_thenR ?_
          refine co_blockR ?_
          refine co_thenR ?_
          refine co_blockR ?_
          refine co_thenR ?_
          refine co_blockR ?_
          refine co_thenR ?_
          refine co_blockR ?_
          refine co_thenR ?_
          refine co_ret1 h152 rfl rfl ?_
          exact ⟨ret_int (by rw [cp_k (by omega)]; first | rw [if_pos (by omega)] | rw [if_neg (by omega)]), hB148⟩
       ·
        rw [hc31] at h30
        have hp153 : p = 112 := by first | simpa using hc31 | simpa [and_assoc] using hc31
        clear hc31
        refine co_true h30 rfl ?_
        refine wp_exit ?_
        refine co_thenX ?_
        refine co_thenX ?_
        refine co_blockY (by decide) ?_
        refine co_thenX ?_
        refine co_blockX ?_
        refine co_then ?_
        refine co_seq ?_
        refine co_seq ?_
        refine co_reg ?_
        refine pk0 (v := pt B 0) h30 rfl fun a154 h154 => ?_; clear h30
        refine pk0 (v := .int .i32 p) h154 rfl fun a155 h155 => ?_; clear h154
        refine pw h155 rfl (op_call (args := #[pt B 0, .int .i32 p]) (R := fun res xw => res = .int .i64 (numP d p) ∧ Below w.heap.size w xw) rfl rfl rfl (by kernel_rfl) (by kernel_rfl) (Try.call110 _ _) (mNumber_any B d mv bv ev sv pv p w hB hm hb he ht hp) (by rintro e x ⟨rfl, hb158⟩; exact ⟨_, rfl, ⟨rfl, hb158⟩⟩)) ?_; clear h155
        rintro _ w157 a156 ⟨rfl, hb158⟩ h156
        have hz159 := hb158.size
        refine pk0 (v := .int .i64 (numP d p)) h156 rfl fun a160 h160 => ?_; clear h156
        refine pl_nil ?_
        refine co_then ?_
        refine co_seq ?_
        refine co_reg ?_
        refine pk0 (v := .int .i64 (numP d p)) h160 rfl fun a161 h161 => ?_; clear h160
        refine pk0 (v := .bool (decide (numP d p < 0))) h161 rfl fun a162 h162 => ?_; clear h161
        refine pk0 (v := .bool (decide (numP d p < 0))) h162 rfl fun a163 h163 => ?_; clear h162
        have hB165 := hb_call hB0 hb158
        cases hc164 : (decide (numP d p < 0))
        ·
         rw [hc164] at h163
         have hp166 : ¬ (numP d p < 0) := of_decide_eq_false hc164
         clear hc164
         refine pk0 (v := .int .i64 (numP d p)) h163 rfl fun a167 h167 => ?_; clear h163
         refine pk0 (v := .int .i64 1073741824) h167 rfl fun a168 h168 => ?_; clear h167
         refine pk0 (v := .bool (decide (numP d p > 1073741824))) h168 rfl fun a169 h169 => ?_; clear h168
         refine pk0 (v := .bool (decide (numP d p > 1073741824))) h169 rfl fun a170 h170 => ?_; clear h169
         refine pl_nil ?_
         refine co_then ?_
         cases hc171 : (decide (numP d p > 1073741824))
         ·
          rw [hc171] at h170
          have hp172 : ¬ (numP d p > 1073741824) := of_decide_eq_false hc171
          clear hc171
          refine co_false h170 rfl ?_
          refine wp_skip ?_
          refine co_then ?_
          refine wp_exit ?_
          refine co_blockY (by decide) ?_
          refine co_thenX ?_
          refine co_blockY (by decide) ?_
          refine co_thenX ?_
          refine co_blockY (by decide) ?_
          refine co_thenX ?_
          refine co_blockY (by decide) ?_
          refine co_thenX ?_
          refine co_blockY (by decide) ?_
          refine co_thenX ?_
          refine co_blockY (by decide) ?_
          refine co_thenX ?_
          refine co_blockX ?_
          refine co_then ?_
          refine co_seq ?_
          refine co_reg ?_
          refine pk0 (v := .int .i64 0) h170 rfl fun a173 h173 => ?_; clear h170
          refine pl_nil ?_
          refine co_then ?_
          refine wp_ret ?_
          refine co_ret1 h173 rfl rfl ?_
          exact ⟨ret_int (by rw [cp_n (by omega)]; first | rw [if_pos (by omega)] | rw [if_neg (by omega)]), hB165⟩
         ·
          rw [hc171] at h170
          have hp174 : numP d p > 1073741824 := of_decide_eq_true hc171
          clear hc171
          refine co_true h170 rfl ?_
          refine co_seq ?_
          refine co_reg ?_
          refine pk0 (v := .int .i64 5) h170 rfl fun a175 h175 => ?_; clear h170
          refine pk0 (v := .int .i64 5) h175 rfl fun a176 h176 => ?_; clear h175
          refine pl_nil ?_
          refine co_then ?_
          refine wp_ret ?_
          refine co_thenR ?_
          refine co_blockR ?_
          refine co_thenR ?_
          refine co_blockR ?_
          refine co_thenR ?_
          refine co_blockR ?_
          refine co_thenR ?_
          refine co_blockR ?_
          refine co_thenR ?_
          refine co_blockR ?_
          refine co_thenR ?_
          refine co_blockR ?_
          refine co_thenR ?_
          refine co_blockR ?_
          refine co_thenR ?_
          refine co_ret1 h176 rfl rfl ?_
          exact ⟨ret_int (by rw [cp_n (by omega)]; first | rw [if_pos (by omega)] | rw [if_neg (by omega)]), hB165⟩
        ·
         rw [hc164] at h163
         have hp177 : numP d p < 0 := of_decide_eq_true hc164
         clear hc164
         refine psk h163 rfl fun a178 h178 => ?_; clear h163
         refine psk h178 rfl fun a179 h179 => ?_; clear h178
         refine psk h179 rfl fun a180 h180 => ?_; clear h179
         refine pk0 (v := .bool true) h180 rfl fun a181 h181 => ?_; clear h180
         refine pl_nil ?_
         refine co_then ?_
         refine co_true h181 rfl ?_
         refine co_seq ?_
         refine co_reg ?_
         refine pk0 (v := .int .i64 5) h181 rfl fun a182 h182 => ?_; clear h181
         refine pk0 (v := .int .i64 5) h182 rfl fun a183 h183 => ?_; clear h182
         refine pl_nil ?_
         refine co_then ?_
         refine wp_ret ?_
         refine co_thenR ?_
         refine co_blockR ?_
         refine co_thenR ?_
         refine co_blockR ?_
         refine co_thenR ?_
         refine co_blockR ?_
         refine co_thenR ?_
         refine co_blockR ?_
         refine co_thenR ?_
         refine co_blockR ?_
         refine co_thenR ?_
         refine co_blockR ?_
         refine co_thenR ?_
         refine co_blockR ?_
         refine co_thenR ?_
         refine co_ret1 h183 rfl rfl ?_
         exact ⟨ret_int (by rw [cp_n (by omega)]; first | rw [if_pos (by omega)] | rw [if_neg (by omega)]), hB165⟩
      ·
       rw [hc27] at h26
       have hp184 : p = 109 := by first | simpa using hc27 | simpa [and_assoc] using hc27
       clear hc27
       refine co_true h26 rfl ?_
       refine wp_skip ?_
       refine co_then ?_
       refine co_true h26 rfl ?_
       refine wp_exit ?_
       refine co_thenX ?_
       refine co_thenX ?_
       refine co_blockY (by decide) ?_
       refine co_thenX ?_
       refine co_blockX ?_
       refine co_then ?_
       refine co_seq ?_
       refine co_seq ?_
       refine co_reg ?_
       refine pk0 (v := pt B 0) h26 rfl fun a185 h185 => ?_; clear h26
       refine pk0 (v := .int .i32 p) h185 rfl fun a186 h186 => ?_; clear h185
       refine pw h186 rfl (op_call (args := #[pt B 0, .int .i32 p]) (R := fun res xw => res = .int .i64 (numP d p) ∧ Below w.heap.size w xw) rfl rfl rfl (by kernel_rfl) (by kernel_rfl) (Try.call110 _ _) (mNumber_any B d mv bv ev sv pv p w hB hm hb he ht hp) (by rintro e x ⟨rfl, hb189⟩; exact ⟨_, rfl, ⟨rfl, hb189⟩⟩)) ?_; clear h186
       rintro _ w188 a187 ⟨rfl, hb189⟩ h187
       have hz190 := hb189.size
       refine pk0 (v := .int .i64 (numP d p)) h187 rfl fun a191 h191 => ?_; clear h187
       refine pl_nil ?_
       refine co_then ?_
       refine co_seq ?_
       refine co_reg ?_
       refine pk0 (v := .int .i64 (numP d p)) h191 rfl fun a192 h192 => ?_; clear h191
       refine pk0 (v := .bool (decide (numP d p < 0))) h192 rfl fun a193 h193 => ?_; clear h192
       refine pk0 (v := .bool (decide (numP d p < 0))) h193 rfl fun a194 h194 => ?_; clear h193
       have hB196 := hb_call hB0 hb189
       cases hc195 : (decide (numP d p < 0))
       ·
        rw [hc195] at h194
        have hp197 : ¬ (numP d p < 0) := of_decide_eq_false hc195
        clear hc195
        refine pk0 (v := .int .i64 (numP d p)) h194 rfl fun a198 h198 => ?_; clear h194
        refine pk0 (v := .int .i64 1073741824) h198 rfl fun a199 h199 => ?_; clear h198
        refine pk0 (v := .bool (decide (numP d p > 1073741824))) h199 rfl fun a200 h200 => ?_; clear h199
        refine pk0 (v := .bool (decide (numP d p > 1073741824))) h200 rfl fun a201 h201 => ?_; clear h200
        refine pl_nil ?_
        refine co_then ?_
        cases hc202 : (decide (numP d p > 1073741824))
        ·
         rw [hc202] at h201
         have hp203 : ¬ (numP d p > 1073741824) := of_decide_eq_false hc202
         clear hc202
         refine co_false h201 rfl ?_
         refine wp_skip ?_
         refine co_then ?_
         refine wp_exit ?_
         refine co_blockY (by decide) ?_
         refine co_thenX ?_
         refine co_blockY (by decide) ?_
         refine co_thenX ?_
         refine co_blockY (by decide) ?_
         refine co_thenX ?_
         refine co_blockY (by decide) ?_
         refine co_thenX ?_
         refine co_blockY (by decide) ?_
         refine co_thenX ?_
         refine co_blockY (by decide) ?_
         refine co_thenX ?_
         refine co_blockX ?_
         refine co_then ?_
         refine co_seq ?_
         refine co_reg ?_
         refine pk0 (v := .int .i64 0) h201 rfl fun a204 h204 => ?_; clear h201
         refine pl_nil ?_
         refine co_then ?_
         refine wp_ret ?_
         refine co_ret1 h204 rfl rfl ?_
         exact ⟨ret_int (by rw [cp_n (by omega)]; first | rw [if_pos (by omega)] | rw [if_neg (by omega)]), hB196⟩
        ·
         rw [hc202] at h201
         have hp205 : numP d p > 1073741824 := of_decide_eq_true hc202
         clear hc202
         refine co_true h201 rfl ?_
         refine co_seq ?_
         refine co_reg ?_
         refine pk0 (v := .int .i64 5) h201 rfl fun a206 h206 => ?_; clear h201
         refine pk0 (v := .int .i64 5) h206 rfl fun a207 h207 => ?_; clear h206
         refine pl_nil ?_
         refine co_then ?_
         refine wp_ret ?_
         refine co_thenR ?_
         refine co_blockR ?_
         refine co_thenR ?_
         refine co_blockR ?_
         refine co_thenR ?_
         refine co_blockR ?_
         refine co_thenR ?_
         refine co_blockR ?_
         refine co_thenR ?_
         refine co_blockR ?_
         refine co_thenR ?_
         refine co_blockR ?_
         refine co_thenR ?_
         refine co_blockR ?_
         refine co_thenR ?_
         refine co_ret1 h207 rfl rfl ?_
         exact ⟨ret_int (by rw [cp_n (by omega)]; first | rw [if_pos (by omega)] | rw [if_neg (by omega)]), hB196⟩
       ·
        rw [hc195] at h194
        have hp208 : numP d p < 0 := of_decide_eq_true hc195
        clear hc195
        refine psk h194 rfl fun a209 h209 => ?_; clear h194
        refine psk h209 rfl fun a210 h210 => ?_; clear h209
        refine psk h210 rfl fun a211 h211 => ?_; clear h210
        refine pk0 (v := .bool true) h211 rfl fun a212 h212 => ?_; clear h211
        refine pl_nil ?_
        refine co_then ?_
        refine co_true h212 rfl ?_
        refine co_seq ?_
        refine co_reg ?_
        refine pk0 (v := .int .i64 5) h212 rfl fun a213 h213 => ?_; clear h212
        refine pk0 (v := .int .i64 5) h213 rfl fun a214 h214 => ?_; clear h213
        refine pl_nil ?_
        refine co_then ?_
        refine wp_ret ?_
        refine co_thenR ?_
        refine co_blockR ?_
        refine co_thenR ?_
        refine co_blockR ?_
        refine co_thenR ?_
        refine co_blockR ?_
        refine co_thenR ?_
        refine co_blockR ?_
        refine co_thenR ?_
        refine co_blockR ?_
        refine co_thenR ?_
        refine co_blockR ?_
        refine co_thenR ?_
        refine co_blockR ?_
        refine co_thenR ?_
        refine co_ret1 h214 rfl rfl ?_
        exact ⟨ret_int (by rw [cp_n (by omega)]; first | rw [if_pos (by omega)] | rw [if_neg (by omega)]), hB196⟩
     ·
      rw [hc23] at h22
      have hp215 : p = 110 := by first | simpa using hc23 | simpa [and_assoc] using hc23
      clear hc23
      refine co_true h22 rfl ?_
      refine wp_skip ?_
      refine co_then ?_
      refine co_true h22 rfl ?_
      refine wp_exit ?_
      refine co_thenX ?_
      refine co_thenX ?_
      refine co_blockY (by decide) ?_
      refine co_thenX ?_
      refine co_blockX ?_
      refine co_then ?_
      refine co_seq ?_
      refine co_seq ?_
      refine co_reg ?_
      refine pk0 (v := pt B 0) h22 rfl fun a216 h216 => ?_; clear h22
      refine pk0 (v := .int .i32 p) h216 rfl fun a217 h217 => ?_; clear h216
      refine pw h217 rfl (op_call (args := #[pt B 0, .int .i32 p]) (R := fun res xw => res = .int .i64 (numP d p) ∧ Below w.heap.size w xw) rfl rfl rfl (by kernel_rfl) (by kernel_rfl) (Try.call110 _ _) (mNumber_any B d mv bv ev sv pv p w hB hm hb he ht hp) (by rintro e x ⟨rfl, hb220⟩; exact ⟨_, rfl, ⟨rfl, hb220⟩⟩)) ?_; clear h217
      rintro _ w219 a218 ⟨rfl, hb220⟩ h218
      have hz221 := hb220.size
      refine pk0 (v := .int .i64 (numP d p)) h218 rfl fun a222 h222 => ?_; clear h218
      refine pl_nil ?_
      refine co_then ?_
      refine co_seq ?_
      refine co_reg ?_
      refine pk0 (v := .int .i64 (numP d p)) h222 rfl fun a223 h223 => ?_; clear h222
      refine pk0 (v := .bool (decide (numP d p < 0))) h223 rfl fun a224 h224 => ?_; clear h223
      refine pk0 (v := .bool (decide (numP d p < 0))) h224 rfl fun a225 h225 => ?_; clear h224
      have hB227 := hb_call hB0 hb220
      cases hc226 : (decide (numP d p < 0))
      ·
       rw [hc226] at h225
       have hp228 : ¬ (numP d p < 0) := of_decide_eq_false hc226
       clear hc226
       refine pk0 (v := .int .i64 (numP d p)) h225 rfl fun a229 h229 => ?_; clear h225
       refine pk0 (v := .int .i64 1073741824) h229 rfl fun a230 h230 => ?_; clear h229
       refine pk0 (v := .bool (decide (numP d p > 1073741824))) h230 rfl fun a231 h231 => ?_; clear h230
       refine pk0 (v := .bool (decide (numP d p > 1073741824))) h231 rfl fun a232 h232 => ?_; clear h231
       refine pl_nil ?_
       refine co_then ?_
       cases hc233 : (decide (numP d p > 1073741824))
       ·
        rw [hc233] at h232
        have hp234 : ¬ (numP d p > 1073741824) := of_decide_eq_false hc233
        clear hc233
        refine co_false h232 rfl ?_
        refine wp_skip ?_
        refine co_then ?_
        refine wp_exit ?_
        refine co_blockY (by decide) ?_
        refine co_thenX ?_
        refine co_blockY (by decide) ?_
        refine co_thenX ?_
        refine co_blockY (by decide) ?_
        refine co_thenX ?_
        refine co_blockY (by decide) ?_
        refine co_thenX ?_
        refine co_blockY (by decide) ?_
        refine co_thenX ?_
        refine co_blockY (by decide) ?_
        refine co_thenX ?_
        refine co_blockX ?_
        refine co_then ?_
        refine co_seq ?_
        refine co_reg ?_
        refine pk0 (v := .int .i64 0) h232 rfl fun a235 h235 => ?_; clear h232
        refine pl_nil ?_
        refine co_then ?_
        refine wp_ret ?_
        refine co_ret1 h235 rfl rfl ?_
        exact ⟨ret_int (by rw [cp_n (by omega)]; first | rw [if_pos (by omega)] | rw [if_neg (by omega)]), hB227⟩
       ·
        rw [hc233] at h232
        have hp236 : numP d p > 1073741824 := of_decide_eq_true hc233
        clear hc233
        refine co_true h232 rfl ?_
        refine co_seq ?_
        refine co_reg ?_
        refine pk0 (v := .int .i64 5) h232 rfl fun a237 h237 => ?_; clear h232
        refine pk0 (v := .int .i64 5) h237 rfl fun a238 h238 => ?_; clear h237
        refine pl_nil ?_
        refine co_then ?_
        refine wp_ret ?_
        refine co_thenR ?_
        refine co_blockR ?_
        refine co_thenR ?_
        refine co_blockR ?_
        refine co_thenR ?_
        refine co_blockR ?_
        refine co_thenR ?_
        refine co_blockR ?_
        refine co_thenR ?_
        refine co_blockR ?_
        refine co_thenR ?_
        refine co_blockR ?_
        refine co_thenR ?_
        refine co_blockR ?_
        refine co_thenR ?_
        refine co_ret1 h238 rfl rfl ?_
        exact ⟨ret_int (by rw [cp_n (by omega)]; first | rw [if_pos (by omega)] | rw [if_neg (by omega)]), hB227⟩
      ·
       rw [hc226] at h225
       have hp239 : numP d p < 0 := of_decide_eq_true hc226
       clear hc226
       refine psk h225 rfl fun a240 h240 => ?_; clear h225
       refine psk h240 rfl fun a241 h241 => ?_; clear h240
       refine psk h241 rfl fun a242 h242 => ?_; clear h241
       refine pk0 (v := .bool true) h242 rfl fun a243 h243 => ?_; clear h242
       refine pl_nil ?_
       refine co_then ?_
       refine co_true h243 rfl ?_
       refine co_seq ?_
       refine co_reg ?_
       refine pk0 (v := .int .i64 5) h243 rfl fun a244 h244 => ?_; clear h243
       refine pk0 (v := .int .i64 5) h244 rfl fun a245 h245 => ?_; clear h244
       refine pl_nil ?_
       refine co_then ?_
       refine wp_ret ?_
       refine co_thenR ?_
       refine co_blockR ?_
       refine co_thenR ?_
       refine co_blockR ?_
       refine co_thenR ?_
       refine co_blockR ?_
       refine co_thenR ?_
       refine co_blockR ?_
       refine co_thenR ?_
       refine co_blockR ?_
       refine co_thenR ?_
       refine co_blockR ?_
       refine co_thenR ?_
       refine co_blockR ?_
       refine co_thenR ?_
       refine co_ret1 h245 rfl rfl ?_
       exact ⟨ret_int (by rw [cp_n (by omega)]; first | rw [if_pos (by omega)] | rw [if_neg (by omega)]), hB227⟩
    ·
     rw [hc19] at h18
     have hp246 : p = 113 := by first | simpa using hc19 | simpa [and_assoc] using hc19
     clear hc19
     refine co_true h18 rfl ?_
     refine wp_skip ?_
     refine co_then ?_
     refine co_true h18 rfl ?_
     refine wp_exit ?_
     refine co_thenX ?_
     refine co_thenX ?_
     refine co_blockY (by decide) ?_
     refine co_thenX ?_
     refine co_blockX ?_
     refine co_then ?_
     refine co_seq ?_
     refine co_seq ?_
     refine co_reg ?_
     refine pk0 (v := pt B 0) h18 rfl fun a247 h247 => ?_; clear h18
     refine pk0 (v := .int .i32 p) h247 rfl fun a248 h248 => ?_; clear h247
     refine pw h248 rfl (op_call (args := #[pt B 0, .int .i32 p]) (R := fun res xw => res = .int .i64 (numP d p) ∧ Below w.heap.size w xw) rfl rfl rfl (by kernel_rfl) (by kernel_rfl) (Try.call110 _ _) (mNumber_any B d mv bv ev sv pv p w hB hm hb he ht hp) (by rintro e x ⟨rfl, hb251⟩; exact ⟨_, rfl, ⟨rfl, hb251⟩⟩)) ?_; clear h248
     rintro _ w250 a249 ⟨rfl, hb251⟩ h249
     have hz252 := hb251.size
     refine pk0 (v := .int .i64 (numP d p)) h249 rfl fun a253 h253 => ?_; clear h249
     refine pl_nil ?_
     refine co_then ?_
     refine co_seq ?_
     refine co_reg ?_
     refine pk0 (v := .int .i64 (numP d p)) h253 rfl fun a254 h254 => ?_; clear h253
     refine pk0 (v := .bool (decide (numP d p < 0))) h254 rfl fun a255 h255 => ?_; clear h254
     refine pk0 (v := .bool (decide (numP d p < 0))) h255 rfl fun a256 h256 => ?_; clear h255
     have hB258 := hb_call hB0 hb251
     cases hc257 : (decide (numP d p < 0))
     ·
      rw [hc257] at h256
      have hp259 : ¬ (numP d p < 0) := of_decide_eq_false hc257
      clear hc257
      refine pk0 (v := .int .i64 (numP d p)) h256 rfl fun a260 h260 => ?_; clear h256
      refine pk0 (v := .int .i64 1073741824) h260 rfl fun a261 h261 => ?_; clear h260
      refine pk0 (v := .bool (decide (numP d p > 1073741824))) h261 rfl fun a262 h262 => ?_; clear h261
      refine pk0 (v := .bool (decide (numP d p > 1073741824))) h262 rfl fun a263 h263 => ?_; clear h262
      refine pl_nil ?_
      refine co_then ?_
      cases hc264 : (decide (numP d p > 1073741824))
      ·
       rw [hc264] at h263
       have hp265 : ¬ (numP d p > 1073741824) := of_decide_eq_false hc264
       clear hc264
       refine co_false h263 rfl ?_
       refine wp_skip ?_
       refine co_then ?_
       refine wp_exit ?_
       refine co_blockY (by decide) ?_
       refine co_thenX ?_
       refine co_blockY (by decide) ?_
       refine co_thenX ?_
       refine co_blockY (by decide) ?_
       refine co_thenX ?_
       refine co_blockY (by decide) ?_
       refine co_thenX ?_
       refine co_blockY (by decide) ?_
       refine co_thenX ?_
       refine co_blockY (by decide) ?_
       refine co_thenX ?_
       refine co_blockX ?_
       refine co_then ?_
       refine co_seq ?_
       refine co_reg ?_
       refine pk0 (v := .int .i64 0) h263 rfl fun a266 h266 => ?_; clear h263
       refine pl_nil ?_
       refine co_then ?_
       refine wp_ret ?_
       refine co_ret1 h266 rfl rfl ?_
       exact ⟨ret_int (by rw [cp_n (by omega)]; first | rw [if_pos (by omega)] | rw [if_neg (by omega)]), hB258⟩
      ·
       rw [hc264] at h263
       have hp267 : numP d p > 1073741824 := of_decide_eq_true hc264
       clear hc264
       refine co_true h263 rfl ?_
       refine co_seq ?_
       refine co_reg ?_
       refine pk0 (v := .int .i64 5) h263 rfl fun a268 h268 => ?_; clear h263
       refine pk0 (v := .int .i64 5) h268 rfl fun a269 h269 => ?_; clear h268
       refine pl_nil ?_
       refine co_then ?_
       refine wp_ret ?_
       refine co_thenR ?_
       refine co_blockR ?_
       refine co_thenR ?_
       refine co_blockR ?_
       refine co_thenR ?_
       refine co_blockR ?_
       refine co_thenR ?_
       refine co_blockR ?_
       refine co_thenR ?_
       refine co_blockR ?_
       refine co_thenR ?_
       refine co_blockR ?_
       refine co_thenR ?_
       refine co_blockR ?_
       refine co_thenR ?_
       refine co_ret1 h269 rfl rfl ?_
       exact ⟨ret_int (by rw [cp_n (by omega)]; first | rw [if_pos (by omega)] | rw [if_neg (by omega)]), hB258⟩
     ·
      rw [hc257] at h256
      have hp270 : numP d p < 0 := of_decide_eq_true hc257
      clear hc257
      refine psk h256 rfl fun a271 h271 => ?_; clear h256
      refine psk h271 rfl fun a272 h272 => ?_; clear h271
      refine psk h272 rfl fun a273 h273 => ?_; clear h272
      refine pk0 (v := .bool true) h273 rfl fun a274 h274 => ?_; clear h273
      refine pl_nil ?_
      refine co_then ?_
      refine co_true h274 rfl ?_
      refine co_seq ?_
      refine co_reg ?_
      refine pk0 (v := .int .i64 5) h274 rfl fun a275 h275 => ?_; clear h274
      refine pk0 (v := .int .i64 5) h275 rfl fun a276 h276 => ?_; clear h275
      refine pl_nil ?_
      refine co_then ?_
      refine wp_ret ?_
      refine co_thenR ?_
      refine co_blockR ?_
      refine co_thenR ?_
      refine co_blockR ?_
      refine co_thenR ?_
      refine co_blockR ?_
      refine co_thenR ?_
      refine co_blockR ?_
      refine co_thenR ?_
      refine co_blockR ?_
      refine co_thenR ?_
      refine co_blockR ?_
      refine co_thenR ?_
      refine co_blockR ?_
      refine co_thenR ?_
      refine co_ret1 h276 rfl rfl ?_
      exact ⟨ret_int (by rw [cp_n (by omega)]; first | rw [if_pos (by omega)] | rw [if_neg (by omega)]), hB258⟩
   ·
    rw [hc15] at h14
    have hp277 : p = 115 := by first | simpa using hc15 | simpa [and_assoc] using hc15
    clear hc15
    refine co_true h14 rfl ?_
    refine wp_skip ?_
    refine co_then ?_
    refine co_true h14 rfl ?_
    refine wp_exit ?_
    refine co_thenX ?_
    refine co_thenX ?_
    refine co_blockY (by decide) ?_
    refine co_thenX ?_
    refine co_blockX ?_
    refine co_then ?_
    refine co_seq ?_
    refine co_seq ?_
    refine co_reg ?_
    refine pk0 (v := pt B 0) h14 rfl fun a278 h278 => ?_; clear h14
    refine pk0 (v := .int .i32 p) h278 rfl fun a279 h279 => ?_; clear h278
    refine pw h279 rfl (op_call (args := #[pt B 0, .int .i32 p]) (R := fun res xw => res = .int .i64 (numP d p) ∧ Below w.heap.size w xw) rfl rfl rfl (by kernel_rfl) (by kernel_rfl) (Try.call110 _ _) (mNumber_any B d mv bv ev sv pv p w hB hm hb he ht hp) (by rintro e x ⟨rfl, hb282⟩; exact ⟨_, rfl, ⟨rfl, hb282⟩⟩)) ?_; clear h279
    rintro _ w281 a280 ⟨rfl, hb282⟩ h280
    have hz283 := hb282.size
    refine pk0 (v := .int .i64 (numP d p)) h280 rfl fun a284 h284 => ?_; clear h280
    refine pl_nil ?_
    refine co_then ?_
    refine co_seq ?_
    refine co_reg ?_
    refine pk0 (v := .int .i64 (numP d p)) h284 rfl fun a285 h285 => ?_; clear h284
    refine pk0 (v := .bool (decide (numP d p < 0))) h285 rfl fun a286 h286 => ?_; clear h285
    refine pk0 (v := .bool (decide (numP d p < 0))) h286 rfl fun a287 h287 => ?_; clear h286
    have hB289 := hb_call hB0 hb282
    cases hc288 : (decide (numP d p < 0))
    ·
     rw [hc288] at h287
     have hp290 : ¬ (numP d p < 0) := of_decide_eq_false hc288
     clear hc288
     refine pk0 (v := .int .i64 (numP d p)) h287 rfl fun a291 h291 => ?_; clear h287
     refine pk0 (v := .int .i64 1073741824) h291 rfl fun a292 h292 => ?_; clear h291
     refine pk0 (v := .bool (decide (numP d p > 1073741824))) h292 rfl fun a293 h293 => ?_; clear h292
     refine pk0 (v := .bool (decide (numP d p > 1073741824))) h293 rfl fun a294 h294 => ?_; clear h293
     refine pl_nil ?_
     refine co_then ?_
     cases hc295 : (decide (numP d p > 1073741824))
     ·
      rw [hc295] at h294
      have hp296 : ¬ (numP d p > 1073741824) := of_decide_eq_false hc295
      clear hc295
      refine co_false h294 rfl ?_
      refine wp_skip ?_
      refine co_then ?_
      refine wp_exit ?_
      refine co_blockY (by decide) ?_
      refine co_thenX ?_
      refine co_blockY (by decide) ?_
      refine co_thenX ?_
      refine co_blockY (by decide) ?_
      refine co_thenX ?_
      refine co_blockY (by decide) ?_
      refine co_thenX ?_
      refine co_blockY (by decide) ?_
      refine co_thenX ?_
      refine co_blockY (by decide) ?_
      refine co_thenX ?_
      refine co_blockX ?_
      refine co_then ?_
      refine co_seq ?_
      refine co_reg ?_
      refine pk0 (v := .int .i64 0) h294 rfl fun a297 h297 => ?_; clear h294
      refine pl_nil ?_
      refine co_then ?_
      refine wp_ret ?_
      refine co_ret1 h297 rfl rfl ?_
      exact ⟨ret_int (by rw [cp_n (by omega)]; first | rw [if_pos (by omega)] | rw [if_neg (by omega)]), hB289⟩
     ·
      rw [hc295] at h294
      have hp298 : numP d p > 1073741824 := of_decide_eq_true hc295
      clear hc295
      refine co_true h294 rfl ?_
      refine co_seq ?_
      refine co_reg ?_
      refine pk0 (v := .int .i64 5) h294 rfl fun a299 h299 => ?_; clear h294
      refine pk0 (v := .int .i64 5) h299 rfl fun a300 h300 => ?_; clear h299
      refine pl_nil ?_
      refine co_then ?_
      refine wp_ret ?_
      refine co_thenR ?_
      refine co_blockR ?_
      refine co_thenR ?_
      refine co_blockR ?_
      refine co_thenR ?_
      refine co_blockR ?_
      refine co_thenR ?_
      refine co_blockR ?_
      refine co_thenR ?_
      refine co_blockR ?_
      refine co_thenR ?_
      refine co_blockR ?_
      refine co_thenR ?_
      refine co_blockR ?_
      refine co_thenR ?_
      refine co_ret1 h300 rfl rfl ?_
      exact ⟨ret_int (by rw [cp_n (by omega)]; first | rw [if_pos (by omega)] | rw [if_neg (by omega)]), hB289⟩
    ·
     rw [hc288] at h287
     have hp301 : numP d p < 0 := of_decide_eq_true hc288
     clear hc288
     refine psk h287 rfl fun a302 h302 => ?_; clear h287
     refine psk h302 rfl fun a303 h303 => ?_; clear h302
     refine psk h303 rfl fun a304 h304 => ?_; clear h303
     refine pk0 (v := .bool true) h304 rfl fun a305 h305 => ?_; clear h304
     refine pl_nil ?_
     refine co_then ?_
     refine co_true h305 rfl ?_
     refine co_seq ?_
     refine co_reg ?_
     refine pk0 (v := .int .i64 5) h305 rfl fun a306 h306 => ?_; clear h305
     refine pk0 (v := .int .i64 5) h306 rfl fun a307 h307 => ?_; clear h306
     refine pl_nil ?_
     refine co_then ?_
     refine wp_ret ?_
     refine co_thenR ?_
     refine co_blockR ?_
     refine co_thenR ?_
     refine co_blockR ?_
     refine co_thenR ?_
     refine co_blockR ?_
     refine co_thenR ?_
     refine co_blockR ?_
     refine co_thenR ?_
     refine co_blockR ?_
     refine co_thenR ?_
     refine co_blockR ?_
     refine co_thenR ?_
     refine co_blockR ?_
     refine co_thenR ?_
     refine co_ret1 h307 rfl rfl ?_
     exact ⟨ret_int (by rw [cp_n (by omega)]; first | rw [if_pos (by omega)] | rw [if_neg (by omega)]), hB289⟩
  ·
   rw [hc11] at h10
   have hp308 : p = 101 := by first | simpa using hc11 | simpa [and_assoc] using hc11
   clear hc11
   refine co_true h10 rfl ?_
   refine wp_skip ?_
   refine co_then ?_
   refine co_true h10 rfl ?_
   refine wp_exit ?_
   refine co_thenX ?_
   refine co_thenX ?_
   refine co_blockY (by decide) ?_
   refine co_thenX ?_
   refine co_blockX ?_
   refine co_then ?_
   refine co_seq ?_
   refine co_seq ?_
   refine co_reg ?_
   refine pk0 (v := pt B 0) h10 rfl fun a309 h309 => ?_; clear h10
   refine pk0 (v := .int .i32 p) h309 rfl fun a310 h310 => ?_; clear h309
   refine pw h310 rfl (op_call (args := #[pt B 0, .int .i32 p]) (R := fun res xw => res = .int .i64 (numP d p) ∧ Below w.heap.size w xw) rfl rfl rfl (by kernel_rfl) (by kernel_rfl) (Try.call110 _ _) (mNumber_any B d mv bv ev sv pv p w hB hm hb he ht hp) (by rintro e x ⟨rfl, hb313⟩; exact ⟨_, rfl, ⟨rfl, hb313⟩⟩)) ?_; clear h310
   rintro _ w312 a311 ⟨rfl, hb313⟩ h311
   have hz314 := hb313.size
   refine pk0 (v := .int .i64 (numP d p)) h311 rfl fun a315 h315 => ?_; clear h311
   refine pl_nil ?_
   refine co_then ?_
   refine co_seq ?_
   refine co_reg ?_
   refine pk0 (v := .int .i64 (numP d p)) h315 rfl fun a316 h316 => ?_; clear h315
   refine pk0 (v := .bool (decide (numP d p < 0))) h316 rfl fun a317 h317 => ?_; clear h316
   refine pk0 (v := .bool (decide (numP d p < 0))) h317 rfl fun a318 h318 => ?_; clear h317
   have hB320 := hb_call hB0 hb313
   cases hc319 : (decide (numP d p < 0))
   ·
    rw [hc319] at h318
    have hp321 : ¬ (numP d p < 0) := of_decide_eq_false hc319
    clear hc319
    refine pk0 (v := .int .i64 (numP d p)) h318 rfl fun a322 h322 => ?_; clear h318
    refine pk0 (v := .int .i64 1073741824) h322 rfl fun a323 h323 => ?_; clear h322
    refine pk0 (v := .bool (decide (numP d p > 1073741824))) h323 rfl fun a324 h324 => ?_; clear h323
    refine pk0 (v := .bool (decide (numP d p > 1073741824))) h324 rfl fun a325 h325 => ?_; clear h324
    refine pl_nil ?_
    refine co_then ?_
    cases hc326 : (decide (numP d p > 1073741824))
    ·
     rw [hc326] at h325
     have hp327 : ¬ (numP d p > 1073741824) := of_decide_eq_false hc326
     clear hc326
     refine co_false h325 rfl ?_
     refine wp_skip ?_
     refine co_then ?_
     refine wp_exit ?_
     refine co_blockY (by decide) ?_
     refine co_thenX ?_
     refine co_blockY (by decide) ?_
     refine co_thenX ?_
     refine co_blockY (by decide) ?_
     refine co_thenX ?_
     refine co_blockY (by decide) ?_
     refine co_thenX ?_
     refine co_blockY (by decide) ?_
     refine co_thenX ?_
     refine co_blockY (by decide) ?_
     refine co_thenX ?_
     refine co_blockX ?_
     refine co_then ?_
     refine co_seq ?_
     refine co_reg ?_
     refine pk0 (v := .int .i64 0) h325 rfl fun a328 h328 => ?_; clear h325
     refine pl_nil ?_
     refine co_then ?_
     refine wp_ret ?_
     refine co_ret1 h328 rfl rfl ?_
     exact ⟨ret_int (by rw [cp_n (by omega)]; first | rw [if_pos (by omega)] | rw [if_neg (by omega)]), hB320⟩
    ·
     rw [hc326] at h325
     have hp329 : numP d p > 1073741824 := of_decide_eq_true hc326
     clear hc326
     refine co_true h325 rfl ?_
     refine co_seq ?_
     refine co_reg ?_
     refine pk0 (v := .int .i64 5) h325 rfl fun a330 h330 => ?_; clear h325
     refine pk0 (v := .int .i64 5) h330 rfl fun a331 h331 => ?_; clear h330
     refine pl_nil ?_
     refine co_then ?_
     refine wp_ret ?_
     refine co_thenR ?_
     refine co_blockR ?_
     refine co_thenR ?_
     refine co_blockR ?_
     refine co_thenR ?_
     refine co_blockR ?_
     refine co_thenR ?_
     refine co_blockR ?_
     refine co_thenR ?_
     refine co_blockR ?_
     refine co_thenR ?_
     refine co_blockR ?_
     refine co_thenR ?_
     refine co_blockR ?_
     refine co_thenR ?_
     refine co_ret1 h331 rfl rfl ?_
     exact ⟨ret_int (by rw [cp_n (by omega)]; first | rw [if_pos (by omega)] | rw [if_neg (by omega)]), hB320⟩
   ·
    rw [hc319] at h318
    have hp332 : numP d p < 0 := of_decide_eq_true hc319
    clear hc319
    refine psk h318 rfl fun a333 h333 => ?_; clear h318
    refine psk h333 rfl fun a334 h334 => ?_; clear h333
    refine psk h334 rfl fun a335 h335 => ?_; clear h334
    refine pk0 (v := .bool true) h335 rfl fun a336 h336 => ?_; clear h335
    refine pl_nil ?_
    refine co_then ?_
    refine co_true h336 rfl ?_
    refine co_seq ?_
    refine co_reg ?_
    refine pk0 (v := .int .i64 5) h336 rfl fun a337 h337 => ?_; clear h336
    refine pk0 (v := .int .i64 5) h337 rfl fun a338 h338 => ?_; clear h337
    refine pl_nil ?_
    refine co_then ?_
    refine wp_ret ?_
    refine co_thenR ?_
    refine co_blockR ?_
    refine co_thenR ?_
    refine co_blockR ?_
    refine co_thenR ?_
    refine co_blockR ?_
    refine co_thenR ?_
    refine co_blockR ?_
    refine co_thenR ?_
    refine co_blockR ?_
    refine co_thenR ?_
    refine co_blockR ?_
    refine co_thenR ?_
    refine co_blockR ?_
    refine co_thenR ?_
    refine co_ret1 h338 rfl rfl ?_
    exact ⟨ret_int (by rw [cp_n (by omega)]; first | rw [if_pos (by omega)] | rw [if_neg (by omega)]), hB320⟩
 ·
  rw [hc7] at h6
  have hp339 : p = 120 := by first | simpa using hc7 | simpa [and_assoc] using hc7
  clear hc7
  refine co_true h6 rfl ?_
  refine wp_exit ?_
  refine co_thenX ?_
  refine co_thenX ?_
  refine co_blockX ?_
  refine co_then ?_
  refine co_reg ?_
  refine pk0 (v := .int .i64 21) h6 rfl fun a340 h340 => ?_; clear h6
  refine pk0 (v := .int .i64 1) h340 rfl fun a341 h341 => ?_; clear h340
  refine pl_nil ?_
  refine co_blockN ?_
  refine co_then ?_
  refine co_seq ?_
  refine co_seq ?_
  refine co_reg ?_
  refine pk0 (v := pt B 0) h341 rfl fun a342 h342 => ?_; clear h341
  refine pk0 (v := .int .i32 p) h342 rfl fun a343 h343 => ?_; clear h342
  refine pw h343 rfl (op_call (args := #[pt B 0, .int .i32 p]) (R := fun res xw => res = .int .i64 (numP d p) ∧ Below w.heap.size w xw) rfl rfl rfl (by kernel_rfl) (by kernel_rfl) (Try.call110 _ _) (mNumber_any B d mv bv ev sv pv p w hB hm hb he ht hp) (by rintro e x ⟨rfl, hb346⟩; exact ⟨_, rfl, ⟨rfl, hb346⟩⟩)) ?_; clear h343
  rintro _ w345 a344 ⟨rfl, hb346⟩ h344
  have hz347 := hb346.size
  refine pk0 (v := .int .i64 (numP d p)) h344 rfl fun a348 h348 => ?_; clear h344
  refine pl_nil ?_
  refine co_then ?_
  refine co_seq ?_
  refine co_reg ?_
  refine pk0 (v := .int .i64 (numP d p)) h348 rfl fun a349 h349 => ?_; clear h348
  refine pk0 (v := .bool (decide (numP d p < 0))) h349 rfl fun a350 h350 => ?_; clear h349
  refine pk0 (v := .bool (decide (numP d p < 0))) h350 rfl fun a351 h351 => ?_; clear h350
  have hB353 := hb_call hB0 hb346
  cases hc352 : (decide (numP d p < 0))
  ·
   rw [hc352] at h351
   have hp354 : ¬ (numP d p < 0) := of_decide_eq_false hc352
   clear hc352
   refine pk0 (v := .int .i64 (numP d p)) h351 rfl fun a355 h355 => ?_; clear h351
   refine pk0 (v := .int .i64 21) h355 rfl fun a356 h356 => ?_; clear h355
   refine pk0 (v := .bool (decide (numP d p > 21))) h356 rfl fun a357 h357 => ?_; clear h356
   refine pk0 (v := .bool (decide (numP d p > 21))) h357 rfl fun a358 h358 => ?_; clear h357
   refine pl_nil ?_
   refine co_then ?_
   cases hc359 : (decide (numP d p > 21))
   ·
    rw [hc359] at h358
    have hp360 : ¬ (numP d p > 21) := of_decide_eq_false hc359
    clear hc359
    refine co_false h358 rfl ?_
    refine wp_skip ?_
    refine co_then ?_
    refine wp_exit ?_
    refine co_blockY (by decide) ?_
    refine co_thenX ?_
    refine co_blockY (by decide) ?_
    refine co_thenX ?_
    refine co_blockY (by decide) ?_
    refine co_thenX ?_
    refine co_blockY (by decide) ?_
    refine co_thenX ?_
    refine co_blockY (by decide) ?_
    refine co_thenX ?_
    refine co_blockY (by decide) ?_
    refine co_thenX ?_
    refine co_blockX ?_
    refine co_then ?_
    refine co_seq ?_
    refine co_reg ?_
    refine pk0 (v := .int .i64 0) h358 rfl fun a361 h361 => ?_; clear h358
    refine pl_nil ?_
    refine co_then ?_
    refine wp_ret ?_
    refine co_ret1 h361 rfl rfl ?_
    exact ⟨ret_int (by have hn := np_7 (d := d) (p := p) (by omega); rw [cp_x (by omega)]; first | rw [if_pos (by omega)] | rw [if_neg (by omega)]), hB353⟩
   ·
    rw [hc359] at h358
    have hp362 : numP d p > 21 := of_decide_eq_true hc359
    clear hc359
    refine co_true h358 rfl ?_
    refine co_seq ?_
    refine co_reg ?_
    refine pk0 (v := .int .i64 1) h358 rfl fun a363 h363 => ?_; clear h358
    refine pk0 (v := .int .i64 1) h363 rfl fun a364 h364 => ?_; clear h363
    refine pl_nil ?_
    refine co_then ?_
    refine wp_ret ?_
    refine co_thenR ?_
    refine co_blockR ?_
    refine co_thenR ?_
    refine co_blockR ?_
    refine co_thenR ?_
    refine co_blockR ?_
    refine co_thenR ?_
    refine co_blockR ?_
    refine co_thenR ?_
    refine co_blockR ?_
    refine co_thenR ?_
    refine co_blockR ?_
    refine co_thenR ?_
    refine co_blockR ?_
    refine co_thenR ?_
    refine co_ret1 h364 rfl rfl ?_
    exact ⟨ret_int (by have hn := np_7 (d := d) (p := p) (by omega); rw [cp_x (by omega)]; first | rw [if_pos (by omega)] | rw [if_neg (by omega)]), hB353⟩
  ·
   rw [hc352] at h351
   have hp365 : numP d p < 0 := of_decide_eq_true hc352
   clear hc352
   refine psk h351 rfl fun a366 h366 => ?_; clear h351
   refine psk h366 rfl fun a367 h367 => ?_; clear h366
   refine psk h367 rfl fun a368 h368 => ?_; clear h367
   refine pk0 (v := .bool true) h368 rfl fun a369 h369 => ?_; clear h368
   refine pl_nil ?_
   refine co_then ?_
   refine co_true h369 rfl ?_
   refine co_seq ?_
   refine co_reg ?_
   refine pk0 (v := .int .i64 1) h369 rfl fun a370 h370 => ?_; clear h369
   refine pk0 (v := .int .i64 1) h370 rfl fun a371 h371 => ?_; clear h370
   refine pl_nil ?_
   refine co_then ?_
   refine wp_ret ?_
   refine co_thenR ?_
   refine co_blockR ?_
   refine co_thenR ?_
   refine co_blockR ?_
   refine co_thenR ?_
   refine co_blockR ?_
   refine co_thenR ?_
   refine co_blockR ?_
   refine co_thenR ?_
   refine co_blockR ?_
   refine co_thenR ?_
   refine co_blockR ?_
   refine co_thenR ?_
   refine co_blockR ?_
   refine co_thenR ?_
   refine co_ret1 h371 rfl rfl ?_
   exact ⟨ret_int (by have hn := np_7 (d := d) (p := p) (by omega); rw [cp_x (by omega)]; first | rw [if_pos (by omega)] | rw [if_neg (by omega)]), hB353⟩
set_option maxRecDepth 100000 in
theorem mCheck_any (d : MsgD) (mv : Value) (bv : Value) (ev : Value) (sv : Value) (pv : Value) (w : World) (hm : SliceOf memE 2 w mv d.cms) (hb : SliceOf opE 3 w bv d.bl) (he : SliceOf entE 4 w ev d.en) (ht : SliceOf (intE .u64) 1 w sv d.st) (hp : SliceOf prE 2 w pv d.pr) (hok : ∀ z ∈ d.en, EntOk w z) (hR : MsgR d) :
    Calls Try.prog 47 #[.agg #[.int .i64 d.k, .int .i64 d.ep, .int .i64 d.rq, .int .i64 d.sr, .bool d.fg, .int .u64 d.at_, .int .u64 d.la, .int .i64 d.n, .int .i64 d.m, .int .i64 d.p, .int .i64 d.e, .string d.key, .string d.to_, .int .i64 d.cep, mv, .int .u64 d.cfl, .int .i64 d.bc, .int .i64 d.br, bv, ev, sv, pv]] w fun e w' => e = .returned (.int .i64 (chkMg d)) ∧ Below w.heap.size w w' := by
 have hrng := hR.rng
 have hB0 := Below.refl w.heap.size w
 have hl_hm := sl_len hm
 have hl_hb := sl_len hb
 have hl_he := sl_len he
 have hl_ht := sl_len ht
 have hl_hp := sl_len hp
 refine co_enter (n := 22) Try.func47 rfl rfl rfl [(0, .agg #[.int .i64 d.k, .int .i64 d.ep, .int .i64 d.rq, .int .i64 d.sr, .bool d.fg, .int .u64 d.at_, .int .u64 d.la, .int .i64 d.n, .int .i64 d.m, .int .i64 d.p, .int .i64 d.e, .string d.key, .string d.to_, .int .i64 d.cep, mv, .int .u64 d.cfl, .int .i64 d.bc, .int .i64 d.br, bv, ev, sv, pv])] rfl (fun a h0 => ?_)
 refine co_seq ?_
 refine co_reg ?_
 refine pw h0 rfl (op_new (v := fun N => pt N 0) (T := 37) (cs := #[.int .i64 d.k, .int .i64 d.ep, .int .i64 d.rq, .int .i64 d.sr, .bool d.fg, .int .u64 d.at_, .int .u64 d.la, .int .i64 d.n, .int .i64 d.m, .int .i64 d.p, .int .i64 d.e, .string d.key, .string d.to_, .int .i64 d.cep, mv, .int .u64 d.cfl, .int .i64 d.bc, .int .i64 d.br, bv, ev, sv, pv]) (by kernel_rfl) (by kernel_rfl) (by kernel_rfl)) ?_; clear h0
 rintro _ w2 a1 ⟨N3, rfl, hN6, hz7, hk5, hg4⟩ h1
 have hz8 := hg4.size
 try dsimp only at h1
 refine pk0 (v := .int .i64 0) h1 rfl fun a9 h9 => ?_; clear h1
 refine pl_nil ?_
 refine co_then ?_
 refine co_seq ?_
 refine co_seq ?_
 refine co_reg ?_
 refine pk0 (v := pt N3 0) h9 rfl fun a10 h10 => ?_; clear h9
 refine pk (v := .int .i64 d.k) h10 rfl (rn_load1 rfl rfl Try.isAgg3 (hk5.cell rfl)) fun a11 h11 => ?_; clear h10
 refine pw h11 rfl (op_call (args := #[.int .i64 d.k]) (R := fun res xw => res = .bool (decide (1 ≤ d.k ∧ d.k ≤ 15)) ∧ Below w2.heap.size w2 xw) rfl rfl rfl (by kernel_rfl) (by kernel_rfl) (Try.call84 _ _) (mKnown_any d.k w2 ) (by rintro e x ⟨rfl, hb14⟩; exact ⟨_, rfl, ⟨rfl, hb14⟩⟩)) ?_; clear h11
 rintro _ w13 a12 ⟨rfl, hb14⟩ h12
 have hz15 := hb14.size
 have hB17 := hb_new hB0 hg4
 have hB18 := hb_call hB17 hb14
 cases hc16 : (decide (1 ≤ d.k ∧ d.k ≤ 15))
 ·
  rw [hc16] at h12
  have hp19 : ¬ (1 ≤ d.k ∧ d.k ≤ 15) := of_decide_eq_false hc16
  clear hc16
  refine pk0 (v := .bool true) h12 rfl fun a20 h20 => ?_; clear h12
  refine pl_nil ?_
  refine co_then ?_
  refine co_true h20 rfl ?_
  refine co_seq ?_
  refine co_reg ?_
  refine pk0 (v := .int .i64 11) h20 rfl fun a21 h21 => ?_; clear h20
  refine pl_nil ?_
  refine co_then ?_
  refine wp_ret ?_
  refine co_thenR ?_
  refine co_ret1 h21 rfl rfl ?_
  exact ⟨ret_int (by unfold chkMg; rw [if_neg (by omega)]), hB18⟩
 ·
  rw [hc16] at h12
  have hp22 : 1 ≤ d.k ∧ d.k ≤ 15 := of_decide_eq_true hc16
  clear hc16
  refine pk0 (v := .bool false) h12 rfl fun a23 h23 => ?_; clear h12
  refine pl_nil ?_
  refine co_then ?_
  refine co_false h23 rfl ?_
  refine wp_skip ?_
  refine co_then ?_
  refine co_seq ?_
  refine co_seq ?_
  refine co_reg ?_
  refine pk0 (v := pt N3 0) h23 rfl fun a24 h24 => ?_; clear h23
  have hk25 := hk5.below hb14
  refine pk (v := .int .i64 d.k) h24 rfl (rn_load1 rfl rfl Try.isAgg3 (hk25.cell rfl)) fun a26 h26 => ?_; clear h24
  refine pw h26 rfl (op_call (args := #[.int .i64 d.k]) (R := fun res xw => res = .string (pstr d.k) ∧ Below w13.heap.size w13 xw) rfl rfl rfl (by kernel_rfl) (by kernel_rfl) (Try.call85 _ _) (mParts_any d.k w13 ) (by rintro e x ⟨rfl, hb29⟩; exact ⟨_, rfl, ⟨rfl, hb29⟩⟩)) ?_; clear h26
  rintro _ w28 a27 ⟨rfl, hb29⟩ h27
  have hz30 := hb29.size
  refine pw h27 rfl (op_rangeS rfl rfl Try.underlying9) ?_; clear h27
  rintro _ w32 a31 ⟨r33, rfl, hN34, hI35, hz36, hg37⟩ h31
  have hz38 := hg37.size
  have hl39 := hI35.lt
  refine pl_nil ?_
  refine co_then ?_
  refine wp_block ?_
  have h40 : Slots 22 [(1, pt N3 0), (2, .int .i64 0), (12, .string (pstr d.k)), (13, pt r33 0)] _ := h31.sub ⟨rfl, rfl, rfl, rfl, trivial⟩; clear h31
  refine co_loop (fun mm a x => ∃ (i : Nat), Slots 22 [(1, pt N3 0), (2, .int .i64 0), (12, .string (pstr d.k)), (13, pt r33 0)] a ∧ mm = (pstr d.k).size - i ∧ (i ≤ (pstr d.k).size) ∧ (chkF (cP d) ((ptL d.k).drop i) = chkF (cP d) (ptL d.k)) ∧ SIt x r33 (pstr d.k) i ∧ Below w.heap.size w x ∧ Blk x N3 37 #[.int .i64 d.k, .int .i64 d.ep, .int .i64 d.rq, .int .i64 d.sr, .bool d.fg, .int .u64 d.at_, .int .u64 d.la, .int .i64 d.n, .int .i64 d.m, .int .i64 d.p, .int .i64 d.e, .string d.key, .string d.to_, .int .i64 d.cep, mv, .int .u64 d.cfl, .int .i64 d.bc, .int .i64 d.br, bv, ev, sv, pv]) ((pstr d.k).size - 0) ?_ ?_
  have hB41 := hb_call hB18 hb29
  have hB42 := hb_new hB41 hg37
  have hk43 := hk25.below hb29
  have hk44 := hk43.kept hg37 (by simp)
  · exact ⟨0, h40.sub ⟨rfl, rfl, rfl, rfl, trivial⟩, rfl, by omega, by first | rfl | exact hL', hI35, hB42, hk44⟩
  · rintro k45 a46 w47 ⟨i, h46, rfl, hi48, hi49, hf50, hB51, hk52⟩
    have hz53 := hB51.size
    have hl54 := hk52.lt
    have hl55 := hf50.lt
    have hL : chkF (cP d) ((ptL d.k).drop i) = chkF (cP d) (ptL d.k) := by assumption
    refine co_seq ?_
    refine co_reg ?_
    refine pl_want h46 rfl rfl rfl (op_nextS rfl rfl hf50 (pstr_ascii _)) ?_; clear h46
    rintro _ w57 a56 (⟨hend58, rfl, rfl⟩ | ⟨hlt59, rfl, hI60, hz61, hg62⟩) h56
    ·
     refine pk0 (v := .bool false) h56 rfl fun a63 h63 => ?_; clear h56
     refine pl_nil ?_
     refine co_then ?_
     refine co_seq ?_
     refine co_false h63 rfl ?_
     refine wp_exit ?_
     refine co_thenX ?_
     refine co_thenX ?_
     refine co_blockX ?_
     refine co_then ?_
     refine co_seq ?_
     refine co_reg ?_
     refine pk0 (v := .int .i64 0) h63 rfl fun a64 h64 => ?_; clear h63
     refine pl_nil ?_
     refine co_then ?_
     refine wp_ret ?_
     refine co_ret1 h64 rfl rfl ?_
     have hpl := pstr_len d.k
     exact ⟨ret_int (by unfold chkMg; rw [if_pos (by omega)]; exact cF_end (i := i) hL (by omega)), hB51⟩
    ·
     have hz65 := hg62.size
     have hl66 := hI60.lt
     refine pk0 (v := .bool true) h56 rfl fun a67 h67 => ?_; clear h56
     refine pl_nil ?_
     refine co_then ?_
     refine co_seq ?_
     refine co_true h67 rfl ?_
     refine wp_skip ?_
     refine co_then ?_
     refine wp_block ?_
     refine co_seq ?_
     refine co_reg ?_
     refine pk0 (v := .int .i32 (byteAt (pstr d.k) i)) h67 rfl fun a68 h68 => ?_; clear h67
     refine pk0 (v := .int .i32 (byteAt (pstr d.k) i)) h68 rfl fun a69 h69 => ?_; clear h68
     refine pl_nil ?_
     refine co_then ?_
     refine co_seq ?_
     refine co_reg ?_
     refine pk0 (v := .int .i32 (byteAt (pstr d.k) i)) h69 rfl fun a70 h70 => ?_; clear h69
     have hB73 := hb_at hB51 hg62 (by omega)
     have hk74 := hk52.kept hg62 (by simp; omega)
     refine pw h70 rfl (op_call (args := #[pt N3 0, .int .i32 (byteAt (pstr d.k) i)]) (R := fun res xw => res = .int .i64 (chkP d (byteAt (pstr d.k) i)) ∧ Below w57.heap.size w57 xw) rfl rfl rfl (by kernel_rfl) (by kernel_rfl) (Try.call86 _ _) (mCheckP_any N3 d mv bv ev sv pv (byteAt (pstr d.k) i) w57 hk74 (hm.below hB73) (hb.below hB73) (he.below hB73) (ht.below hB73) (hp.below hB73) (fun z hz => (hok z hz).below hB73) hR) (by rintro e x ⟨rfl, hb75⟩; exact ⟨_, rfl, ⟨rfl, hb75⟩⟩)) ?_; clear h70
     rintro _ w72 a71 ⟨rfl, hb75⟩ h71
     have hz76 := hb75.size
     refine pk0 (v := .int .i64 (chkP d (byteAt (pstr d.k) i))) h71 rfl fun a77 h77 => ?_; clear h71
     refine pl_nil ?_
     refine co_then ?_
     refine co_seq ?_
     refine co_reg ?_
     refine pk0 (v := .int .i64 (chkP d (byteAt (pstr d.k) i))) h77 rfl fun a78 h78 => ?_; clear h77
     refine pk0 (v := .bool (chkP d (byteAt (pstr d.k) i) != 0)) h78 rfl fun a79 h79 => ?_; clear h78
     refine pl_nil ?_
     refine co_then ?_
     have hB81 := hb_call hB73 hb75
     cases hc80 : (chkP d (byteAt (pstr d.k) i) != 0)
     ·
      rw [hc80] at h79
      have hp82 : ¬ (chkP d (byteAt (pstr d.k) i) ≠ 0) := by first | simpa using hc80 | simpa [and_assoc] using hc80
      clear hc80
      refine co_false h79 rfl ?_
      refine wp_skip ?_
      refine co_blockN ?_
      refine co_then ?_
      refine ⟨((pstr d.k).size - (i + 1)), by omega, ?_⟩
      obtain ⟨c, hc, hcb⟩ := byteAt_pstr (k := d.k) (i := i) (by omega)
      have hL' := cF_step (f := cP d) hL hc (by show chkP d _ = 0; rw [← hcb]; omega)
      have hI83 := hI60.kept (below_grown hb75) (by simp)
      have hk84 := hk74.below hb75
      exact ⟨i + 1, h79.sub ⟨rfl, rfl, rfl, rfl, trivial⟩, rfl, by omega, by first | rfl | exact hL', hI83, hB81, hk84⟩
     ·
      rw [hc80] at h79
      have hp85 : chkP d (byteAt (pstr d.k) i) ≠ 0 := by first | simpa using hc80 | simpa [and_assoc] using hc80
      clear hc80
      refine co_true h79 rfl ?_
      refine co_seq ?_
      refine co_reg ?_
      refine pk0 (v := .int .i64 (chkP d (byteAt (pstr d.k) i))) h79 rfl fun a86 h86 => ?_; clear h79
      refine pk0 (v := .int .i64 (chkP d (byteAt (pstr d.k) i))) h86 rfl fun a87 h87 => ?_; clear h86
      refine pl_nil ?_
      refine co_then ?_
      refine wp_ret ?_
      refine co_blockR ?_
      refine co_thenR ?_
      refine co_blockR ?_
      refine co_thenR ?_
      refine co_ret1 h87 rfl rfl ?_
      obtain ⟨c, hc, hcb⟩ := byteAt_pstr (k := d.k) (i := i) (by omega)
      exact ⟨ret_int (by unfold chkMg; rw [if_pos (by omega), hcb]; exact cF_bad (f := cP d) (i := i) hL hc (by show chkP d _ ≠ 0; rw [← hcb]; omega)), hB81⟩
end Go.Proofs.Ytbjbcbbhmbpndaa

/- Objects with a footprint: what holds of them depends on the blocks in S alone; a call turns S, and what it makes joins it. Conditions: none. -/
namespace Go.Proofs.Ytbjbcbbhmbpndaa
open Go.RowKit Go.PlainAid
set_option linter.unusedVariables false

/-- S' holds what S held, and what was made since; nothing but S was turned. -/
structure Grew (S S' : Nat → Prop) (w x : World) : Prop where
  sub : ∀ q, S' q → S q ∨ w.heap.size ≤ q
  but : But S w x
section
variable {S S' D : Nat → Prop} {n N : Nat} {w x : World} {v u : Value} {T e : TypeId} {cs : Array Value} {B sz k : Nat} {xs : List Value}
theorem hbL {w0 : World} (h : Below w0.heap.size w0 w) (hlo : ∀ q, S q → w0.heap.size ≤ q) (hb : But S w x) : Below w0.heap.size w0 x := below_but h hb h.size (fun i _ h => hlo i h)
theorem Grew.lo {n0 : Nat} (h : Grew S S' w x) (hlo : ∀ q, S q → n0 ≤ q) (hn : n0 ≤ w.heap.size) : ∀ q, S' q → n0 ≤ q := fun q hq => by
  rcases h.sub q hq with k | k
  · exact hlo q k
  · omega
theorem Grew.off (h : Grew S S' w x) (hN : ¬ S N) (hl : N < w.heap.size) : ¬ S' N := fun hq => by
  rcases h.sub N hq with k | k
  · exact hN k
  · omega
/-- Two objects that have no block in common go on so, where one is turned. -/
theorem Grew.ap (h : Grew S S' w x) (ha : ∀ q, S q → D q → False) (hD : ∀ q, D q → q < w.heap.size) : ∀ q, S' q → D q → False := fun q h1 h2 => by
  rcases h.sub q h1 with k | k
  · exact ha q k h2
  · have := hD q h2; omega
theorem ap_symm (ha : ∀ q, S q → D q → False) : ∀ q, D q → S q → False := fun q h1 h2 => ha q h2 h1
theorem off_new (hS : ∀ q, S q → q < w.heap.size) (hN : N = w.heap.size) : ¬ S N := fun h => by have := hS N h; omega
theorem off_lo (hlo : ∀ q, S q → n ≤ q) (h : N < n) : ¬ S N := fun hq => by have := hlo N hq; omega
theorem offR_row (hS : ∀ q, S q → q < n) (hr : x.ownsRow B e sz v k xs) (hB : n ≤ B) : ∀ i, v.ownBlock = some i → ¬ S i := fun i hi hq => by have := hS i hq; have := (hr.lt i hi).1; omega
theorem Blk.butS (h : Blk w N T cs) (hb : But S w x) (hn : ¬ S N) : Blk x N T cs := by
  have hl := h.lt
  unfold Blk at h ⊢
  rw [hb.block N hl hn]; exact h
theorem row_sameL (h : w.ownsRow B e sz v k xs) (hk : ∀ i, v.ownBlock = some i → x.heap[i]? = w.heap[i]?) : x.ownsRow B e sz v k xs := by
  refine ⟨h.1, ?_⟩
  rcases h.2 with h1 | ⟨g, c, cur, rfl, hg, hh, h3⟩
  · exact .inl h1
  · exact .inr ⟨g, c, cur, rfl, hg, by rw [hk g rfl]; exact hh, h3⟩
theorem own_butS (h : w.ownsRow B e sz v k xs) (hb : But S w x) (hn : ∀ i, v.ownBlock = some i → ¬ S i) : x.ownsRow B e sz v k xs :=
  row_sameL h fun i hi => hb.block i (h.lt i hi).2 (hn i hi)
theorem MapB.butS {K : Type} [DecidableEq K] {kv : K → Value} {l : List (K × Value)} (h : MapB kv w B l) (hb : But S w x) (hn : ¬ S B) : MapB kv x B l := by
  have hl := h.lt
  obtain ⟨es, cl, h1, h2⟩ := h
  exact ⟨es, cl, by rw [hb.block B hl hn]; exact h1, h2⟩
theorem MapO.butS {K V : Type} [DecidableEq K] {kv : K → Value} {enc : V → Value} {g : K → Option V} {c : Nat} (h : MapO kv enc w B g c) (hb : But S w x) (hn : ¬ S B) : MapO kv enc x B g c := by
  obtain ⟨l, h1, h2⟩ := h; exact ⟨l, h1.butS hb hn, h2⟩
theorem MapG.butS {K V : Type} [DecidableEq K] {kv : K → Value} {enc : V → Value} {z : V} {g : K → V} (h : MapG kv enc z w B g) (hb : But S w x) (hn : ¬ S B) : MapG kv enc z x B g := by
  obtain ⟨l, h1, h2⟩ := h; exact ⟨l, h1.butS hb hn, h2⟩
/-- A slice that came in ahead of all that S has. -/
theorem sl_off {α : Type} {enc : α → List Value} {l : List α} (h : SliceOf enc sz w v l) (hne : ∀ y ∈ l, enc y ≠ []) (hlo : ∀ q, S q → w.heap.size ≤ q) : l ≠ [] → ∀ k, v.ownBlock = some k → ¬ S k := by
  intro hl k hk hq
  obtain ⟨ao, cap, rfl, h1, h2, h3, h4⟩ := h
  cases l with
  | nil => exact hl rfl
  | cons y r =>
    obtain ⟨b, off, rfl, hr⟩ := h4 0 (by simp)
    have hy := hne y (by simp)
    have hne0 : 0 < (enc y).length := by cases he : enc y with | nil => exact absurd he hy | cons a t => simp
    have hc := hr 0 _ (List.getElem?_eq_getElem hne0)
    have hlt := World.block_lt_of_cell? w _ hc
    simp only [Value.ownBlock, Option.some.injEq] at hk
    have := hlo k hq
    simp at hlt
    omega
end
end Go.Proofs.Ytbjbcbbhmbpndaa

/- Package tree: how a tree lies; deep, measure. Conditions: depths of at most 1000000. -/
namespace Go.Proofs.Ytbjbcbbhmbpndaa
open Go.RowKit Go.PlainAid
set_option linter.unusedVariables false
set_option linter.unusedSimpArgs false


/-- A slice as a value. -/
structure SlT where
  a : Option Addr
  n : Nat
  c : Nat
deriving Inhabited
/-- A tree as it lies: each node with its block. -/
inductive Tm where
  | nil
  | nd (b : Nat) (l : Tm) (k : ByteArray) (v : SlT) (d : Int) (r : Tm)
deriving Inhabited
def ptT : Tm → Value
  | .nil => .pointer none
  | .nd b _ _ _ _ _ => pt b 0
def bk : Tm → List Nat
  | .nil => []
  | .nd b l _ _ _ r => b :: (bk l ++ bk r)
def dp : Tm → Int
  | .nil => 0
  | .nd _ _ _ _ d _ => d
def ndV (k : ByteArray) (v : SlT) (d : Int) (l r : Tm) : Array Value := #[.string k, .slice v.a v.n v.c, .int .i64 d, ptT l, ptT r]
def TreeAt (w : World) : Tm → Prop
  | .nil => True
  | .nd b l k v d r => Blk w b 180 (ndV k v d l r) ∧ TreeAt w l ∧ TreeAt w r
def mx (a b : Int) : Int := if a < b then b else a
theorem ptT_one (t : Tm) : (ptT t).oneCell' = true := by cases t <;> rfl
section
variable {w x : World} {t l r : Tm} {b k0 : Nat} {k : ByteArray} {v : SlT} {d : Int} {S : Nat → Prop}
theorem TreeAt.lt : ∀ {t : Tm}, TreeAt w t → ∀ q ∈ bk t, q < w.heap.size
  | .nil, _, q, hq => by simp [bk] at hq
  | .nd b l k v d r, h, q, hq => by
    simp only [bk, List.mem_cons, List.mem_append] at hq
    rcases hq with rfl | hq | hq
    · exact h.1.lt
    · exact TreeAt.lt h.2.1 q hq
    · exact TreeAt.lt h.2.2 q hq
theorem TreeAt.keep : ∀ {t : Tm}, TreeAt w t → (∀ q ∈ bk t, x.heap[q]? = w.heap[q]?) → TreeAt x t
  | .nil, _, _ => trivial
  | .nd b l k v d r, h, hk => by
    simp only [bk, List.mem_cons, List.mem_append] at hk
    refine ⟨?_, TreeAt.keep h.2.1 (fun q hq => hk q (.inr (.inl hq))), TreeAt.keep h.2.2 (fun q hq => hk q (.inr (.inr hq)))⟩
    have h1 := h.1
    unfold Blk at h1 ⊢
    rw [hk b (.inl rfl)]; exact h1
theorem TreeAt.gr {row : Option Nat} (h : TreeAt w t) (hg : w.grownBy x row) (hr : ∀ q, row = some q → q ∉ bk t) : TreeAt x t :=
  h.keep fun q hq => hg.block q (h.lt q hq) (fun e => hr q e.symm hq)
theorem TreeAt.but (h : TreeAt w t) (hb : But S w x) (hs : ∀ q ∈ bk t, ¬ S q) : TreeAt x t := h.keep fun q hq => hb.block q (h.lt q hq) (hs q hq)
end
theorem But.of_grown0 {w x : World} (h : w.grownBy x none) (S : Nat → Prop) : But S w x := ⟨h.os, h.tape, h.output, h.size, fun k hk _ => h.block k hk (by simp)⟩
theorem mx_eq1 {a b : Int} (h : a < b) : mx a b = b := if_pos h
theorem mx_eq2 {a b : Int} (h : ¬ a < b) : mx a b = a := if_neg h
theorem mx_bd3 {a b : Int} : a ≤ mx a b ∧ b ≤ mx a b ∧ (mx a b = a ∨ mx a b = b) := by unfold mx; split <;> omega
set_option maxRecDepth 100000 in
theorem deep_nil  (w : World)  :
    Calls Try.prog 135 #[.pointer none] w fun e w' => e = .returned (.int .i64 0) ∧ w = w' := by
 have hB0 := Below.refl w.heap.size w
 refine co_enter (n := 9) Try.func135 rfl rfl rfl [(0, .pointer none)] rfl (fun a h0 => ?_)
 refine co_seq ?_
 refine co_reg ?_
 refine pk0 (v := .int .i64 0) h0 rfl fun a1 h1 => ?_; clear h0
 refine pl_nil ?_
 refine co_then ?_
 refine co_seq ?_
 refine co_seq ?_
 refine co_reg ?_
 refine pk0 (v := .pointer none) h1 rfl fun a2 h2 => ?_; clear h1
 refine pk0 (v := .bool true) h2 rfl fun a3 h3 => ?_; clear h2
 refine pl_nil ?_
 refine co_then ?_
 refine co_true h3 rfl ?_
 refine co_seq ?_
 refine co_reg ?_
 refine pk0 (v := .int .i64 0) h3 rfl fun a4 h4 => ?_; clear h3
 refine pl_nil ?_
 refine co_then ?_
 refine wp_ret ?_
 refine co_thenR ?_
 refine co_ret1 h4 rfl rfl ?_
 exact ⟨rfl, rfl⟩
set_option maxRecDepth 100000 in
theorem deep_blk0 (b : Nat) (k : ByteArray) (v : SlT) (d : Int) (p : Value) (q : Value) (w : World) (hB : Blk w b 180 #[.string k, .slice v.a v.n v.c, .int .i64 d, p, q]) :
    Calls Try.prog 135 #[pt b 0] w fun e w' => e = .returned (.int .i64 d) ∧ w = w' := by
 have hB0 := Below.refl w.heap.size w
 have hl_hB := hB.lt
 refine co_enter (n := 9) Try.func135 rfl rfl rfl [(0, pt b 0)] rfl (fun a h0 => ?_)
 refine co_seq ?_
 refine co_reg ?_
 refine pk0 (v := .int .i64 0) h0 rfl fun a1 h1 => ?_; clear h0
 refine pl_nil ?_
 refine co_then ?_
 refine co_seq ?_
 refine co_seq ?_
 refine co_reg ?_
 refine pk0 (v := pt b 0) h1 rfl fun a2 h2 => ?_; clear h1
 refine pk0 (v := .bool false) h2 rfl fun a3 h3 => ?_; clear h2
 refine pl_nil ?_
 refine co_then ?_
 refine co_false h3 rfl ?_
 refine wp_skip ?_
 refine co_then ?_
 refine co_seq ?_
 refine co_reg ?_
 refine pk0 (v := pt b 0) h3 rfl fun a4 h4 => ?_; clear h3
 refine pk0 (v := pt b 0) h4 rfl fun a5 h5 => ?_; clear h4
 refine pk0 (v := pt b 2) h5 rfl fun a6 h6 => ?_; clear h5
 refine pk (v := .int .i64 d) h6 rfl (rn_load1 rfl rfl Try.isAgg3 (hB.cell rfl)) fun a7 h7 => ?_; clear h6
 refine pk0 (v := .int .i64 d) h7 rfl fun a8 h8 => ?_; clear h7
 refine pl_nil ?_
 refine co_then ?_
 refine wp_ret ?_
 refine co_ret1 h8 rfl rfl ?_
 exact ⟨rfl, rfl⟩

theorem deep_blk {b : Nat} {k : ByteArray} {v : SlT} {d : Int} {p q : Value} (w : World) (hB : Blk w b 180 #[.string k, .slice v.a v.n v.c, .int .i64 d, p, q]) : Calls Try.prog 135 #[pt b 0] w fun e w' => e = .returned (.int .i64 d) ∧ w = w' := deep_blk0 b k v d p q w hB
theorem deep_any (t : Tm) (w : World) (h : TreeAt w t) : Calls Try.prog 135 #[ptT t] w fun e w' => e = .returned (.int .i64 (dp t)) ∧ w = w' := by
  cases t with
  | nil => exact deep_nil w
  | nd b l k v d r => exact deep_blk w h.1

set_option maxRecDepth 100000 in
theorem measure_any (b : Nat) (l : Tm) (k : ByteArray) (v : SlT) (d : Int) (r : Tm) (w : World) (hB : Blk w b 180 #[.string k, .slice v.a v.n v.c, .int .i64 d, (ptT l), (ptT r)]) (hl : TreeAt w l) (hr : TreeAt w r) (hbl : b ∉ bk l) (hbr : b ∉ bk r) (hdl : 0 ≤ dp l ∧ dp l ≤ 1000000) (hdr : 0 ≤ dp r ∧ dp r ≤ 1000000) :
    Calls Try.prog 138 #[pt b 0] w fun e w' => e = .returned (.tuple #[]) ∧ Blk w' b 180 (ndV k v (1 + mx (dp l) (dp r)) l r) ∧ But (fun q => q = b) w w' := by
 have hB0 := But.refl (fun q => q = b) w
 have hl_hB := hB.lt
 have hSb : (fun q => q = b) b ∨ w.heap.size ≤ b := .inl rfl
 refine co_enter (n := 17) Try.func138 rfl rfl rfl [(0, pt b 0)] rfl (fun a h0 => ?_)
 refine dr_gen (fun x => But (fun q => q = b) w x) (by kernel_rfl) (fun w1 hg2 => ?_) (fun w1 hg2 => ?_)
 ·
  have hz3 := hg2.size
  have hB4 := fbU_new hB0 hg2
  exact hB4
 have hz5 := hg2.size
 have hB6 := fbU_new hB0 hg2
 refine dk0 0 (v := pt b 0) h0 rfl rfl hB6 fun a7 h7 => ?_; clear h0
 refine dk0 1 (v := pt b 0) h7 rfl rfl hB6 fun a8 h8 => ?_; clear h7
 refine dk0 2 (v := pt b 0) h8 rfl rfl hB6 fun a9 h9 => ?_; clear h8
 refine dk0 3 (v := pt b 3) h9 rfl rfl hB6 fun a10 h10 => ?_; clear h9
 refine dk0 6 (v := pt b 0) h10 rfl rfl hB6 fun a11 h11 => ?_; clear h10
 refine dk0 7 (v := pt b 0) h11 rfl rfl hB6 fun a12 h12 => ?_; clear h11
 refine dk0 8 (v := pt b 4) h12 rfl rfl hB6 fun a13 h13 => ?_; clear h12
 refine dr_many [4, 9] (by kernel_rfl) (by simp) ⟨?_, ?_, trivial⟩
 ·
  have hk14 := hB.kept hg2 (by simp)
  refine dr_opVal (i := 4) (v := (ptT l)) h13 rfl rfl rfl rfl (by kernel_rfl) rfl (rn_load1 rfl rfl Try.isAgg176 (hk14.cell rfl)) hB6 (fun a15 h15 => ?_); clear h13
  refine dr_many [5, 9] (by kernel_rfl) (by simp) ⟨?_, ?_, trivial⟩
  ·
   have hT18 := hl.gr hg2 (fun q e => by cases e)
   refine dr_op (i := 5) h15 rfl rfl rfl rfl (op_call (args := #[(ptT l)]) (R := fun res xw => res = .int .i64 (dp l) ∧ w1 = xw) rfl rfl rfl (by kernel_rfl) (by kernel_rfl) (Try.call135 _ _) (deep_any l w1 hT18) (by rintro e x ⟨rfl, rfl⟩; exact ⟨_, rfl, rfl, rfl⟩)) ?_ ?_; clear h15
   ·
    rintro _ _ ⟨rfl, rfl⟩
    exact hB6
   rintro _ _ a16 ⟨rfl, rfl⟩ h16
   refine dr_many [9] (by kernel_rfl) (by simp) ⟨?_, trivial⟩
   ·
    refine dr_opVal (i := 9) (v := (ptT r)) h16 rfl rfl rfl rfl (by kernel_rfl) rfl (rn_load1 rfl rfl Try.isAgg176 (hk14.cell rfl)) hB6 (fun a19 h19 => ?_); clear h16
    have hT22 := hr.gr hg2 (fun q e => by cases e)
    refine d1 10 h19 rfl rfl (op_call (args := #[(ptT r)]) (R := fun res xw => res = .int .i64 (dp r) ∧ w1 = xw) rfl rfl rfl (by kernel_rfl) (by kernel_rfl) (Try.call135 _ _) (deep_any r w1 hT22) (by rintro e x ⟨rfl, rfl⟩; exact ⟨_, rfl, rfl, rfl⟩)) ?_ ?_; clear h19
    ·
     rintro _ _ ⟨rfl, rfl⟩
     exact hB6
    rintro _ _ a20 ⟨rfl, rfl⟩ h20
    by_cases hs23 : dp l < dp r
    ·
     refine dk 11 (v := .int .i64 (dp r)) h20 rfl rfl hB6 (fun x hx => (rn_max2 rfl rfl rfl rfl (by omega))) fun a24 h24 => ?_; clear h20
     refine dk 12 (v := .int .i64 (1 + (dp r))) h24 rfl rfl hB6 (fun x hx => (rn_arith rfl rfl rfl rfl rfl rfl (IntWalk.i64_in _ (by omega)))) fun a25 h25 => ?_; clear h24
     refine dk0 13 (v := pt b 0) h25 rfl rfl hB6 fun a26 h26 => ?_; clear h25
     refine dk0 14 (v := pt b 2) h26 rfl rfl hB6 fun a27 h27 => ?_; clear h26
     refine d1D 15 h27 rfl rfl (op_store1 rfl rfl rfl rfl Try.sizeOf3 hk14 rfl) ?_ ?_; clear h27
     ·
      rintro _ w29 ⟨hk30, hz31, hg32⟩
      have hk30' : Blk w29 b 180 #[.string k, .slice v.a v.n v.c, .int .i64 (1 + (dp r)), (ptT l), (ptT r)] := hk30; clear hk30
      have hz33 := hg32.size
      have hB34 := fbU_at hB6 hg32 (fun hlt => by rcases hSb with hq | hq; exact hq; omega)
      exact hB34
     rintro _ w29 a28 ⟨hk30, hz31, hg32⟩ h28
     have hk30' : Blk w29 b 180 #[.string k, .slice v.a v.n v.c, .int .i64 (1 + (dp r)), (ptT l), (ptT r)] := hk30; clear hk30
     have hz33 := hg32.size
     refine dr_done (by kernel_rfl) ?_
     refine co_ret0n h28 rfl ?_
     have hB34 := fbU_at hB6 hg32 (fun hlt => by rcases hSb with hq | hq; exact hq; omega)
     exact ⟨rfl, by rw [show 1 + mx (dp l) (dp r) = 1 + (dp r) from by first | (rw [mx_eq1 (by omega)]) | (rw [mx_eq2 (by omega)])]; exact hk30', hB34⟩
    ·
     refine dk 11 (v := .int .i64 (dp l)) h20 rfl rfl hB6 (fun x hx => (rn_max1 rfl rfl rfl rfl (by omega))) fun a35 h35 => ?_; clear h20
     refine dk 12 (v := .int .i64 (1 + (dp l))) h35 rfl rfl hB6 (fun x hx => (rn_arith rfl rfl rfl rfl rfl rfl (IntWalk.i64_in _ (by omega)))) fun a36 h36 => ?_; clear h35
     refine dk0 13 (v := pt b 0) h36 rfl rfl hB6 fun a37 h37 => ?_; clear h36
     refine dk0 14 (v := pt b 2) h37 rfl rfl hB6 fun a38 h38 => ?_; clear h37
     refine d1D 15 h38 rfl rfl (op_store1 rfl rfl rfl rfl Try.sizeOf3 hk14 rfl) ?_ ?_; clear h38
     ·
      rintro _ w40 ⟨hk41, hz42, hg43⟩
      have hk41' : Blk w40 b 180 #[.string k, .slice v.a v.n v.c, .int .i64 (1 + (dp l)), (ptT l), (ptT r)] := hk41; clear hk41
      have hz44 := hg43.size
      have hB45 := fbU_at hB6 hg43 (fun hlt => by rcases hSb with hq | hq; exact hq; omega)
      exact hB45
     rintro _ w40 a39 ⟨hk41, hz42, hg43⟩ h39
     have hk41' : Blk w40 b 180 #[.string k, .slice v.a v.n v.c, .int .i64 (1 + (dp l)), (ptT l), (ptT r)] := hk41; clear hk41
     have hz44 := hg43.size
     refine dr_done (by kernel_rfl) ?_
     refine co_ret0n h39 rfl ?_
     have hB45 := fbU_at hB6 hg43 (fun hlt => by rcases hSb with hq | hq; exact hq; omega)
     exact ⟨rfl, by rw [show 1 + mx (dp l) (dp r) = 1 + (dp l) from by first | (rw [mx_eq1 (by omega)]) | (rw [mx_eq2 (by omega)])]; exact hk41', hB45⟩
  ·
   refine dr_opVal (i := 9) (v := (ptT r)) h15 rfl rfl rfl rfl (by kernel_rfl) rfl (rn_load1 rfl rfl Try.isAgg176 (hk14.cell rfl)) hB6 (fun a46 h46 => ?_); clear h15
   have hT49 := hl.gr hg2 (fun q e => by cases e)
   refine d1 5 h46 rfl rfl (op_call (args := #[(ptT l)]) (R := fun res xw => res = .int .i64 (dp l) ∧ w1 = xw) rfl rfl rfl (by kernel_rfl) (by kernel_rfl) (Try.call135 _ _) (deep_any l w1 hT49) (by rintro e x ⟨rfl, rfl⟩; exact ⟨_, rfl, rfl, rfl⟩)) ?_ ?_; clear h46
   ·
    rintro _ _ ⟨rfl, rfl⟩
    exact hB6
   rintro _ _ a47 ⟨rfl, rfl⟩ h47
   have hT52 := hr.gr hg2 (fun q e => by cases e)
   refine d1 10 h47 rfl rfl (op_call (args := #[(ptT r)]) (R := fun res xw => res = .int .i64 (dp r) ∧ w1 = xw) rfl rfl rfl (by kernel_rfl) (by kernel_rfl) (Try.call135 _ _) (deep_any r w1 hT52) (by rintro e x ⟨rfl, rfl⟩; exact ⟨_, rfl, rfl, rfl⟩)) ?_ ?_; clear h47
   ·
    rintro _ _ ⟨rfl, rfl⟩
    exact hB6
   rintro _ _ a50 ⟨rfl, rfl⟩ h50
   by_cases hs53 : dp l < dp r
   ·
    refine dk 11 (v := .int .i64 (dp r)) h50 rfl rfl hB6 (fun x hx => (rn_max2 rfl rfl rfl rfl (by omega))) fun a54 h54 => ?_; clear h50
    refine dk 12 (v := .int .i64 (1 + (dp r))) h54 rfl rfl hB6 (fun x hx => (rn_arith rfl rfl rfl rfl rfl rfl (IntWalk.i64_in _ (by omega)))) fun a55 h55 => ?_; clear h54
    refine dk0 13 (v := pt b 0) h55 rfl rfl hB6 fun a56 h56 => ?_; clear h55
    refine dk0 14 (v := pt b 2) h56 rfl rfl hB6 fun a57 h57 => ?_; clear h56
    refine d1D 15 h57 rfl rfl (op_store1 rfl rfl rfl rfl Try.sizeOf3 hk14 rfl) ?_ ?_; clear h57
    ·
     rintro _ w59 ⟨hk60, hz61, hg62⟩
     have hk60' : Blk w59 b 180 #[.string k, .slice v.a v.n v.c, .int .i64 (1 + (dp r)), (ptT l), (ptT r)] := hk60; clear hk60
     have hz63 := hg62.size
     have hB64 := fbU_at hB6 hg62 (fun hlt => by rcases hSb with hq | hq; exact hq; omega)
     exact hB64
    rintro _ w59 a58 ⟨hk60, hz61, hg62⟩ h58
    have hk60' : Blk w59 b 180 #[.string k, .slice v.a v.n v.c, .int .i64 (1 + (dp r)), (ptT l), (ptT r)] := hk60; clear hk60
    have hz63 := hg62.size
    refine dr_done (by kernel_rfl) ?_
    refine co_ret0n h58 rfl ?_
    have hB64 := fbU_at hB6 hg62 (fun hlt => by rcases hSb with hq | hq; exact hq; omega)
    exact ⟨rfl, by rw [show 1 + mx (dp l) (dp r) = 1 + (dp r) from by first | (rw [mx_eq1 (by omega)]) | (rw [mx_eq2 (by omega)])]; exact hk60', hB64⟩
   ·
    refine dk 11 (v := .int .i64 (dp l)) h50 rfl rfl hB6 (fun x hx => (rn_max1 rfl rfl rfl rfl (by omega))) fun a65 h65 => ?_; clear h50
    refine dk 12 (v := .int .i64 (1 + (dp l))) h65 rfl rfl hB6 (fun x hx => (rn_arith rfl rfl rfl rfl rfl rfl (IntWalk.i64_in _ (by omega)))) fun a66 h66 => ?_; clear h65
    refine dk0 13 (v := pt b 0) h66 rfl rfl hB6 fun a67 h67 => ?_; clear h66
    refine dk0 14 (v := pt b 2) h67 rfl rfl hB6 fun a68 h68 => ?_; clear h67
    refine d1D 15 h68 rfl rfl (op_store1 rfl rfl rfl rfl Try.sizeOf3 hk14 rfl) ?_ ?_; clear h68
    ·
     rintro _ w70 ⟨hk71, hz72, hg73⟩
     have hk71' : Blk w70 b 180 #[.string k, .slice v.a v.n v.c, .int .i64 (1 + (dp l)), (ptT l), (ptT r)] := hk71; clear hk71
     have hz74 := hg73.size
     have hB75 := fbU_at hB6 hg73 (fun hlt => by rcases hSb with hq | hq; exact hq; omega)
     exact hB75
    rintro _ w70 a69 ⟨hk71, hz72, hg73⟩ h69
    have hk71' : Blk w70 b 180 #[.string k, .slice v.a v.n v.c, .int .i64 (1 + (dp l)), (ptT l), (ptT r)] := hk71; clear hk71
    have hz74 := hg73.size
    refine dr_done (by kernel_rfl) ?_
    refine co_ret0n h69 rfl ?_
    have hB75 := fbU_at hB6 hg73 (fun hlt => by rcases hSb with hq | hq; exact hq; omega)
    exact ⟨rfl, by rw [show 1 + mx (dp l) (dp r) = 1 + (dp l) from by first | (rw [mx_eq1 (by omega)]) | (rw [mx_eq2 (by omega)])]; exact hk71', hB75⟩
 ·
  have hk76 := hB.kept hg2 (by simp)
  refine dr_opVal (i := 9) (v := (ptT r)) h13 rfl rfl rfl rfl (by kernel_rfl) rfl (rn_load1 rfl rfl Try.isAgg176 (hk76.cell rfl)) hB6 (fun a77 h77 => ?_); clear h13
  refine dr_many [4] (by kernel_rfl) (by simp) ⟨?_, trivial⟩
  ·
   refine dr_opVal (i := 4) (v := (ptT l)) h77 rfl rfl rfl rfl (by kernel_rfl) rfl (rn_load1 rfl rfl Try.isAgg176 (hk76.cell rfl)) hB6 (fun a78 h78 => ?_); clear h77
   have hT81 := hl.gr hg2 (fun q e => by cases e)
   refine d1 5 h78 rfl rfl (op_call (args := #[(ptT l)]) (R := fun res xw => res = .int .i64 (dp l) ∧ w1 = xw) rfl rfl rfl (by kernel_rfl) (by kernel_rfl) (Try.call135 _ _) (deep_any l w1 hT81) (by rintro e x ⟨rfl, rfl⟩; exact ⟨_, rfl, rfl, rfl⟩)) ?_ ?_; clear h78
   ·
    rintro _ _ ⟨rfl, rfl⟩
    exact hB6
   rintro _ _ a79 ⟨rfl, rfl⟩ h79
   have hT84 := hr.gr hg2 (fun q e => by cases e)
   refine d1 10 h79 rfl rfl (op_call (args := #[(ptT r)]) (R := fun res xw => res = .int .i64 (dp r) ∧ w1 = xw) rfl rfl rfl (by kernel_rfl) (by kernel_rfl) (Try.call135 _ _) (deep_any r w1 hT84) (by rintro e x ⟨rfl, rfl⟩; exact ⟨_, rfl, rfl, rfl⟩)) ?_ ?_; clear h79
   ·
    rintro _ _ ⟨rfl, rfl⟩
    exact hB6
   rintro _ _ a82 ⟨rfl, rfl⟩ h82
   by_cases hs85 : dp l < dp r
   ·
    refine dk 11 (v := .int .i64 (dp r)) h82 rfl rfl hB6 (fun x hx => (rn_max2 rfl rfl rfl rfl (by omega))) fun a86 h86 => ?_; clear h82
    refine dk 12 (v := .int .i64 (1 + (dp r))) h86 rfl rfl hB6 (fun x hx => (rn_arith rfl rfl rfl rfl rfl rfl (IntWalk.i64_in _ (by omega)))) fun a87 h87 => ?_; clear h86
    refine dk0 13 (v := pt b 0) h87 rfl rfl hB6 fun a88 h88 => ?_; clear h87
    refine dk0 14 (v := pt b 2) h88 rfl rfl hB6 fun a89 h89 => ?_; clear h88
    refine d1D 15 h89 rfl rfl (op_store1 rfl rfl rfl rfl Try.sizeOf3 hk76 rfl) ?_ ?_; clear h89
    ·
     rintro _ w91 ⟨hk92, hz93, hg94⟩
     have hk92' : Blk w91 b 180 #[.string k, .slice v.a v.n v.c, .int .i64 (1 + (dp r)), (ptT l), (ptT r)] := hk92; clear hk92
     have hz95 := hg94.size
     have hB96 := fbU_at hB6 hg94 (fun hlt => by rcases hSb with hq | hq; exact hq; omega)
     exact hB96
    rintro _ w91 a90 ⟨hk92, hz93, hg94⟩ h90
    have hk92' : Blk w91 b 180 #[.string k, .slice v.a v.n v.c, .int .i64 (1 + (dp r)), (ptT l), (ptT r)] := hk92; clear hk92
    have hz95 := hg94.size
    refine dr_done (by kernel_rfl) ?_
    refine co_ret0n h90 rfl ?_
    have hB96 := fbU_at hB6 hg94 (fun hlt => by rcases hSb with hq | hq; exact hq; omega)
    exact ⟨rfl, by rw [show 1 + mx (dp l) (dp r) = 1 + (dp r) from by first | (rw [mx_eq1 (by omega)]) | (rw [mx_eq2 (by omega)])]; exact hk92', hB96⟩
   ·
    refine dk 11 (v := .int .i64 (dp l)) h82 rfl rfl hB6 (fun x hx => (rn_max1 rfl rfl rfl rfl (by omega))) fun a97 h97 => ?_; clear h82
    refine dk 12 (v := .int .i64 (1 + (dp l))) h97 rfl rfl hB6 (fun x hx => (rn_arith rfl rfl rfl rfl rfl rfl (IntWalk.i64_in _ (by omega)))) fun a98 h98 => ?_; clear h97
    refine dk0 13 (v := pt b 0) h98 rfl rfl hB6 fun a99 h99 => ?_; clear h98
    refine dk0 14 (v := pt b 2) h99 rfl rfl hB6 fun a100 h100 => ?_; clear h99
    refine d1D 15 h100 rfl rfl (op_store1 rfl rfl rfl rfl Try.sizeOf3 hk76 rfl) ?_ ?_; clear h100
    ·
     rintro _ w102 ⟨hk103, hz104, hg105⟩
     have hk103' : Blk w102 b 180 #[.string k, .slice v.a v.n v.c, .int .i64 (1 + (dp l)), (ptT l), (ptT r)] := hk103; clear hk103
     have hz106 := hg105.size
     have hB107 := fbU_at hB6 hg105 (fun hlt => by rcases hSb with hq | hq; exact hq; omega)
     exact hB107
    rintro _ w102 a101 ⟨hk103, hz104, hg105⟩ h101
    have hk103' : Blk w102 b 180 #[.string k, .slice v.a v.n v.c, .int .i64 (1 + (dp l)), (ptT l), (ptT r)] := hk103; clear hk103
    have hz106 := hg105.size
    refine dr_done (by kernel_rfl) ?_
    refine co_ret0n h101 rfl ?_
    have hB107 := fbU_at hB6 hg105 (fun hlt => by rcases hSb with hq | hq; exact hq; omega)
    exact ⟨rfl, by rw [show 1 + mx (dp l) (dp r) = 1 + (dp l) from by first | (rw [mx_eq1 (by omega)]) | (rw [mx_eq2 (by omega)])]; exact hk103', hB107⟩
end Go.Proofs.Ytbjbcbbhmbpndaa

/- Package tree: upLeft, upRight. Conditions: depths of at most 1000000. -/
namespace Go.Proofs.Ytbjbcbbhmbpndaa
open Go.RowKit Go.PlainAid
set_option linter.unusedVariables false
set_option linter.unusedSimpArgs false


section
variable {a b : Nat} {l r t u : Tm} {k : ByteArray} {v : SlT} {d : Int}
theorem nin_nd (h : a ≠ b) (hl : a ∉ bk l) (hr : a ∉ bk r) : a ∉ bk (Tm.nd b l k v d r) := by simp [bk, h, hl, hr]
theorem dis_symm (h : ∀ q ∈ bk t, q ∉ bk u) : ∀ q ∈ bk u, q ∉ bk t := fun q hq hq2 => h q hq2 hq
theorem nd_ap (h : (bk (Tm.nd b l k v d r)).Nodup) : b ∉ bk l ∧ b ∉ bk r ∧ (bk l).Nodup ∧ (bk r).Nodup ∧ ∀ q ∈ bk l, q ∉ bk r := by
  simp only [bk, List.nodup_cons, List.mem_append, not_or, List.nodup_append] at h
  exact ⟨h.1.1, h.1.2, h.2.1, h.2.2.1, fun q hq hq2 => h.2.2.2 q hq q hq2 rfl⟩
theorem nd_ap' (h1 : b ∉ bk l) (h2 : b ∉ bk r) (h3 : (bk l).Nodup) (h4 : (bk r).Nodup) (h5 : ∀ q ∈ bk l, q ∉ bk r) : (bk (Tm.nd b l k v d r)).Nodup := by
  simp only [bk, List.nodup_cons, List.mem_append, not_or, List.nodup_append]
  exact ⟨⟨h1, h2⟩, h3, h4, fun q hq q2 hq2 e => h5 q hq (e ▸ hq2)⟩
end

set_option maxRecDepth 100000 in
theorem upL_any (b : Nat) (c : Nat) (ll : Tm) (k2 : ByteArray) (v2 : SlT) (d2 : Int) (lr : Tm) (k : ByteArray) (v : SlT) (d : Int) (r : Tm) (w : World) (hB : Blk w b 180 #[.string k, .slice v.a v.n v.c, .int .i64 d, pt c 0, (ptT r)]) (hC : Blk w c 180 #[.string k2, .slice v2.a v2.n v2.c, .int .i64 d2, (ptT ll), (ptT lr)]) (hll : TreeAt w ll) (hlr : TreeAt w lr) (hr : TreeAt w r) (hne : b ≠ c) (hbll : b ∉ bk ll) (hblr : b ∉ bk lr) (hbr : b ∉ bk r) (hcll : c ∉ bk ll) (hclr : c ∉ bk lr) (hcr : c ∉ bk r) (hdll : 0 ≤ dp ll ∧ dp ll ≤ 990000) (hdlr : 0 ≤ dp lr ∧ dp lr ≤ 990000) (hdr : 0 ≤ dp r ∧ dp r ≤ 990000) :
    Calls Try.prog 137 #[pt b 0] w fun e w' => e = .returned (pt c 0) ∧ Blk w' b 180 #[.string k, .slice v.a v.n v.c, .int .i64 (1 + mx (dp lr) (dp r)), ptT lr, ptT r] ∧ Blk w' c 180 #[.string k2, .slice v2.a v2.n v2.c, .int .i64 (1 + mx (dp ll) (1 + mx (dp lr) (dp r))), ptT ll, pt b 0] ∧ But (fun q => q = b ∨ q = c) w w' := by
 have hB0 := But.refl (fun q => q = b ∨ q = c) w
 have hl_hB := hB.lt
 have hl_hC := hC.lt
 have hSb : (fun q => q = b ∨ q = c) b ∨ w.heap.size ≤ b := .inl (.inl rfl)
 have hSc : (fun q => q = b ∨ q = c) c ∨ w.heap.size ≤ c := .inl (.inr rfl)
 refine co_enter (n := 24) Try.func137 rfl rfl rfl [(0, pt b 0)] rfl (fun a h0 => ?_)
 refine co_seq ?_
 refine co_reg ?_
 refine pk0 (v := .pointer none) h0 rfl fun a1 h1 => ?_; clear h0
 refine pl_nil ?_
 refine co_then ?_
 refine co_seq ?_
 refine co_reg ?_
 refine pk0 (v := pt b 0) h1 rfl fun a2 h2 => ?_; clear h1
 refine pk0 (v := pt b 0) h2 rfl fun a3 h3 => ?_; clear h2
 refine pk0 (v := pt b 3) h3 rfl fun a4 h4 => ?_; clear h3
 refine pk (v := pt c 0) h4 rfl (rn_load1 rfl rfl Try.isAgg176 (hB.cell rfl)) fun a5 h5 => ?_; clear h4
 refine pk0 (v := pt c 0) h5 rfl fun a6 h6 => ?_; clear h5
 refine pl_nil ?_
 refine co_then ?_
 refine co_seq ?_
 refine co_reg ?_
 refine pk0 (v := pt b 0) h6 rfl fun a7 h7 => ?_; clear h6
 refine pk0 (v := pt c 0) h7 rfl fun a8 h8 => ?_; clear h7
 refine pk0 (v := pt c 0) h8 rfl fun a9 h9 => ?_; clear h8
 refine pk0 (v := pt c 0) h9 rfl fun a10 h10 => ?_; clear h9
 refine pk0 (v := pt c 4) h10 rfl fun a11 h11 => ?_; clear h10
 refine pk (v := (ptT lr)) h11 rfl (rn_load1 rfl rfl Try.isAgg176 (hC.cell rfl)) fun a12 h12 => ?_; clear h11
 refine pk0 (v := pt b 0) h12 rfl fun a13 h13 => ?_; clear h12
 refine pk0 (v := pt b 0) h13 rfl fun a14 h14 => ?_; clear h13
 refine pk0 (v := pt b 3) h14 rfl fun a15 h15 => ?_; clear h14
 refine pwD h15 rfl (op_store1 rfl rfl rfl (ptT_one _) Try.sizeOf176 hB rfl) ?_; clear h15
 rintro _ w17 a16 ⟨hk18, hz19, hg20⟩ h16
 have hk18' : Blk w17 b 180 #[.string k, .slice v.a v.n v.c, .int .i64 d, (ptT lr), (ptT r)] := hk18; clear hk18
 have hz21 := hg20.size
 refine pk0 (v := pt c 0) h16 rfl fun a22 h22 => ?_; clear h16
 refine pk0 (v := pt c 4) h22 rfl fun a23 h23 => ?_; clear h22
 have hk29 := hC.kept hg20 (by simp; omega)
 refine pwD h23 rfl (op_store1 rfl rfl rfl rfl Try.sizeOf176 hk29 rfl) ?_; clear h23
 rintro _ w25 a24 ⟨hk26, hz27, hg28⟩ h24
 have hk26' : Blk w25 c 180 #[.string k2, .slice v2.a v2.n v2.c, .int .i64 d2, (ptT ll), pt b 0] := hk26; clear hk26
 have hz30 := hg28.size
 refine pl_nil ?_
 refine co_then ?_
 refine co_seq ?_
 refine co_reg ?_
 refine pk0 (v := pt b 0) h24 rfl fun a31 h31 => ?_; clear h24
 have hB34 := fbU_at hB0 hg20 (fun hlt => by rcases hSb with hq | hq; exact hq; omega)
 have hB35 := fbU_at hB34 hg28 (fun hlt => by rcases hSc with hq | hq; exact hq; omega)
 have hT36 := hll.gr hg20 (fun q e => by cases e; exact hbll)
 have hT37 := hT36.gr hg28 (fun q e => by cases e; exact hcll)
 have hT38 := hlr.gr hg20 (fun q e => by cases e; exact hblr)
 have hT39 := hT38.gr hg28 (fun q e => by cases e; exact hclr)
 have hT40 := hr.gr hg20 (fun q e => by cases e; exact hbr)
 have hT41 := hT40.gr hg28 (fun q e => by cases e; exact hcr)
 have hk46 := hk18'.kept hg28 (by simp; omega)
 refine pw h31 rfl (op_call (args := #[pt b 0]) (R := fun res xw => res = .tuple #[] ∧ Blk xw b 180 #[.string k, .slice v.a v.n v.c, .int .i64 (1 + mx (dp lr) (dp r)), (ptT lr), (ptT r)] ∧ But (fun q => q = b) w25 xw) rfl rfl rfl (by kernel_rfl) (by kernel_rfl) (Try.call138 _ _) (measure_any b lr k v d r w25 hk46 hT39 hT41 hblr hbr (show 0 ≤ (dp lr) ∧ (dp lr) ≤ 1000000 from ⟨by omega, by omega⟩) (show 0 ≤ (dp r) ∧ (dp r) ≤ 1000000 from ⟨by omega, by omega⟩)) (by rintro e x ⟨rfl, h1, h2⟩; exact ⟨_, rfl, rfl, h1, h2⟩)) ?_; clear h31
 rintro _ w33 a32 ⟨rfl, hq42, hb43⟩ h32
 obtain ⟨d44, hd45⟩ : ∃ z : Int, z = 1 + mx (dp lr) (dp r) := ⟨_, rfl⟩; rw [← hd45] at hq42
 have hd45b := mx_bd3 (a := (dp lr)) (b := (dp r))
 have hB47 := fbU_foot hB35 hb43 (fun i hi hS => by rcases hS with rfl; first | exact .inl rfl | exact .inr rfl)
 have hz48 := hb43.size
 refine pl_nil ?_
 refine co_then ?_
 refine co_seq ?_
 refine co_reg ?_
 refine pk0 (v := pt c 0) h32 rfl fun a49 h49 => ?_; clear h32
 have hT52 := TreeAt.but hT37 hb43 (fun q hq => (fun e : q = b => hbll (e ▸ hq)))
 have hT53 := TreeAt.but hT39 hb43 (fun q hq => (fun e : q = b => hblr (e ▸ hq)))
 have hT54 := TreeAt.but hT41 hb43 (fun q hq => (fun e : q = b => hbr (e ▸ hq)))
 have hk59 := Blk.butS hk26' hb43 (fun hq => absurd hq (Ne.symm hne))
 refine pw h49 rfl (op_call (args := #[pt c 0]) (R := fun res xw => res = .tuple #[] ∧ Blk xw c 180 #[.string k2, .slice v2.a v2.n v2.c, .int .i64 (1 + mx (dp ll) d44), (ptT ll), pt b 0] ∧ But (fun q => q = c) w33 xw) rfl rfl rfl (by kernel_rfl) (by kernel_rfl) (Try.call138 _ _) (measure_any c ll k2 v2 d2 (Tm.nd b lr k v d44 r) w33 hk59 hT52 ⟨hq42, hT53, hT54⟩ hcll (nin_nd (Ne.symm hne) hclr hcr) (show 0 ≤ (dp ll) ∧ (dp ll) ≤ 1000000 from ⟨by omega, by omega⟩) (show 0 ≤ d44 ∧ d44 ≤ 1000000 from ⟨by omega, by omega⟩)) (by rintro e x ⟨rfl, h1, h2⟩; exact ⟨_, rfl, rfl, h1, h2⟩)) ?_; clear h49
 rintro _ w51 a50 ⟨rfl, hq55, hb56⟩ h50
 obtain ⟨d57, hd58⟩ : ∃ z : Int, z = 1 + mx (dp ll) d44 := ⟨_, rfl⟩; rw [← hd58] at hq55
 have hd58b := mx_bd3 (a := (dp ll)) (b := d44)
 have hB60 := fbU_foot hB47 hb56 (fun i hi hS => by rcases hS with rfl; first | exact .inl rfl | exact .inr rfl)
 have hz61 := hb56.size
 refine pl_nil ?_
 refine co_then ?_
 refine co_seq ?_
 refine co_reg ?_
 refine pk0 (v := pt c 0) h50 rfl fun a62 h62 => ?_; clear h50
 refine pk0 (v := pt c 0) h62 rfl fun a63 h63 => ?_; clear h62
 refine pl_nil ?_
 refine co_then ?_
 refine wp_ret ?_
 refine co_ret1 h63 rfl rfl ?_
 have hk64 := Blk.butS hq42 hb56 (fun hq => absurd hq hne)
 subst hd58; subst hd45
 exact ⟨rfl, hk64, hq55, hB60⟩
set_option maxRecDepth 100000 in
theorem upR_any (b : Nat) (c : Nat) (ll : Tm) (k2 : ByteArray) (v2 : SlT) (d2 : Int) (lr : Tm) (k : ByteArray) (v : SlT) (d : Int) (r : Tm) (w : World) (hB : Blk w b 180 #[.string k, .slice v.a v.n v.c, .int .i64 d, (ptT r), pt c 0]) (hC : Blk w c 180 #[.string k2, .slice v2.a v2.n v2.c, .int .i64 d2, (ptT lr), (ptT ll)]) (hll : TreeAt w ll) (hlr : TreeAt w lr) (hr : TreeAt w r) (hne : b ≠ c) (hbll : b ∉ bk ll) (hblr : b ∉ bk lr) (hbr : b ∉ bk r) (hcll : c ∉ bk ll) (hclr : c ∉ bk lr) (hcr : c ∉ bk r) (hdll : 0 ≤ dp ll ∧ dp ll ≤ 990000) (hdlr : 0 ≤ dp lr ∧ dp lr ≤ 990000) (hdr : 0 ≤ dp r ∧ dp r ≤ 990000) :
    Calls Try.prog 136 #[pt b 0] w fun e w' => e = .returned (pt c 0) ∧ Blk w' b 180 #[.string k, .slice v.a v.n v.c, .int .i64 (1 + mx (dp r) (dp lr)), ptT r, ptT lr] ∧ Blk w' c 180 #[.string k2, .slice v2.a v2.n v2.c, .int .i64 (1 + mx (1 + mx (dp r) (dp lr)) (dp ll)), pt b 0, ptT ll] ∧ But (fun q => q = b ∨ q = c) w w' := by
 have hB0 := But.refl (fun q => q = b ∨ q = c) w
 have hl_hB := hB.lt
 have hl_hC := hC.lt
 have hSb : (fun q => q = b ∨ q = c) b ∨ w.heap.size ≤ b := .inl (.inl rfl)
 have hSc : (fun q => q = b ∨ q = c) c ∨ w.heap.size ≤ c := .inl (.inr rfl)
 refine co_enter (n := 24) Try.func136 rfl rfl rfl [(0, pt b 0)] rfl (fun a h0 => ?_)
 refine co_seq ?_
 refine co_reg ?_
 refine pk0 (v := .pointer none) h0 rfl fun a1 h1 => ?_; clear h0
 refine pl_nil ?_
 refine co_then ?_
 refine co_seq ?_
 refine co_reg ?_
 refine pk0 (v := pt b 0) h1 rfl fun a2 h2 => ?_; clear h1
 refine pk0 (v := pt b 0) h2 rfl fun a3 h3 => ?_; clear h2
 refine pk0 (v := pt b 4) h3 rfl fun a4 h4 => ?_; clear h3
 refine pk (v := pt c 0) h4 rfl (rn_load1 rfl rfl Try.isAgg176 (hB.cell rfl)) fun a5 h5 => ?_; clear h4
 refine pk0 (v := pt c 0) h5 rfl fun a6 h6 => ?_; clear h5
 refine pl_nil ?_
 refine co_then ?_
 refine co_seq ?_
 refine co_reg ?_
 refine pk0 (v := pt b 0) h6 rfl fun a7 h7 => ?_; clear h6
 refine pk0 (v := pt c 0) h7 rfl fun a8 h8 => ?_; clear h7
 refine pk0 (v := pt c 0) h8 rfl fun a9 h9 => ?_; clear h8
 refine pk0 (v := pt c 0) h9 rfl fun a10 h10 => ?_; clear h9
 refine pk0 (v := pt c 3) h10 rfl fun a11 h11 => ?_; clear h10
 refine pk (v := (ptT lr)) h11 rfl (rn_load1 rfl rfl Try.isAgg176 (hC.cell rfl)) fun a12 h12 => ?_; clear h11
 refine pk0 (v := pt b 0) h12 rfl fun a13 h13 => ?_; clear h12
 refine pk0 (v := pt b 0) h13 rfl fun a14 h14 => ?_; clear h13
 refine pk0 (v := pt b 4) h14 rfl fun a15 h15 => ?_; clear h14
 refine pwD h15 rfl (op_store1 rfl rfl rfl (ptT_one _) Try.sizeOf176 hB rfl) ?_; clear h15
 rintro _ w17 a16 ⟨hk18, hz19, hg20⟩ h16
 have hk18' : Blk w17 b 180 #[.string k, .slice v.a v.n v.c, .int .i64 d, (ptT r), (ptT lr)] := hk18; clear hk18
 have hz21 := hg20.size
 refine pk0 (v := pt c 0) h16 rfl fun a22 h22 => ?_; clear h16
 refine pk0 (v := pt c 3) h22 rfl fun a23 h23 => ?_; clear h22
 have hk29 := hC.kept hg20 (by simp; omega)
 refine pwD h23 rfl (op_store1 rfl rfl rfl rfl Try.sizeOf176 hk29 rfl) ?_; clear h23
 rintro _ w25 a24 ⟨hk26, hz27, hg28⟩ h24
 have hk26' : Blk w25 c 180 #[.string k2, .slice v2.a v2.n v2.c, .int .i64 d2, pt b 0, (ptT ll)] := hk26; clear hk26
 have hz30 := hg28.size
 refine pl_nil ?_
 refine co_then ?_
 refine co_seq ?_
 refine co_reg ?_
 refine pk0 (v := pt b 0) h24 rfl fun a31 h31 => ?_; clear h24
 have hB34 := fbU_at hB0 hg20 (fun hlt => by rcases hSb with hq | hq; exact hq; omega)
 have hB35 := fbU_at hB34 hg28 (fun hlt => by rcases hSc with hq | hq; exact hq; omega)
 have hT36 := hll.gr hg20 (fun q e => by cases e; exact hbll)
 have hT37 := hT36.gr hg28 (fun q e => by cases e; exact hcll)
 have hT38 := hlr.gr hg20 (fun q e => by cases e; exact hblr)
 have hT39 := hT38.gr hg28 (fun q e => by cases e; exact hclr)
 have hT40 := hr.gr hg20 (fun q e => by cases e; exact hbr)
 have hT41 := hT40.gr hg28 (fun q e => by cases e; exact hcr)
 have hk46 := hk18'.kept hg28 (by simp; omega)
 refine pw h31 rfl (op_call (args := #[pt b 0]) (R := fun res xw => res = .tuple #[] ∧ Blk xw b 180 #[.string k, .slice v.a v.n v.c, .int .i64 (1 + mx (dp r) (dp lr)), (ptT r), (ptT lr)] ∧ But (fun q => q = b) w25 xw) rfl rfl rfl (by kernel_rfl) (by kernel_rfl) (Try.call138 _ _) (measure_any b r k v d lr w25 hk46 hT41 hT39 hbr hblr (show 0 ≤ (dp r) ∧ (dp r) ≤ 1000000 from ⟨by omega, by omega⟩) (show 0 ≤ (dp lr) ∧ (dp lr) ≤ 1000000 from ⟨by omega, by omega⟩)) (by rintro e x ⟨rfl, h1, h2⟩; exact ⟨_, rfl, rfl, h1, h2⟩)) ?_; clear h31
 rintro _ w33 a32 ⟨rfl, hq42, hb43⟩ h32
 obtain ⟨d44, hd45⟩ : ∃ z : Int, z = 1 + mx (dp r) (dp lr) := ⟨_, rfl⟩; rw [← hd45] at hq42
 have hd45b := mx_bd3 (a := (dp r)) (b := (dp lr))
 have hB47 := fbU_foot hB35 hb43 (fun i hi hS => by rcases hS with rfl; first | exact .inl rfl | exact .inr rfl)
 have hz48 := hb43.size
 refine pl_nil ?_
 refine co_then ?_
 refine co_seq ?_
 refine co_reg ?_
 refine pk0 (v := pt c 0) h32 rfl fun a49 h49 => ?_; clear h32
 have hT52 := TreeAt.but hT41 hb43 (fun q hq => (fun e : q = b => hbr (e ▸ hq)))
 have hT53 := TreeAt.but hT39 hb43 (fun q hq => (fun e : q = b => hblr (e ▸ hq)))
 have hT54 := TreeAt.but hT37 hb43 (fun q hq => (fun e : q = b => hbll (e ▸ hq)))
 have hk59 := Blk.butS hk26' hb43 (fun hq => absurd hq (Ne.symm hne))
 refine pw h49 rfl (op_call (args := #[pt c 0]) (R := fun res xw => res = .tuple #[] ∧ Blk xw c 180 #[.string k2, .slice v2.a v2.n v2.c, .int .i64 (1 + mx d44 (dp ll)), pt b 0, (ptT ll)] ∧ But (fun q => q = c) w33 xw) rfl rfl rfl (by kernel_rfl) (by kernel_rfl) (Try.call138 _ _) (measure_any c (Tm.nd b r k v d44 lr) k2 v2 d2 ll w33 hk59 ⟨hq42, hT52, hT53⟩ hT54 (nin_nd (Ne.symm hne) hcr hclr) hcll (show 0 ≤ d44 ∧ d44 ≤ 1000000 from ⟨by omega, by omega⟩) (show 0 ≤ (dp ll) ∧ (dp ll) ≤ 1000000 from ⟨by omega, by omega⟩)) (by rintro e x ⟨rfl, h1, h2⟩; exact ⟨_, rfl, rfl, h1, h2⟩)) ?_; clear h49
 rintro _ w51 a50 ⟨rfl, hq55, hb56⟩ h50
 obtain ⟨d57, hd58⟩ : ∃ z : Int, z = 1 + mx d44 (dp ll) := ⟨_, rfl⟩; rw [← hd58] at hq55
 have hd58b := mx_bd3 (a := d44) (b := (dp ll))
 have hB60 := fbU_foot hB47 hb56 (fun i hi hS => by rcases hS with rfl; first | exact .inl rfl | exact .inr rfl)
 have hz61 := hb56.size
 refine pl_nil ?_
 refine co_then ?_
 refine co_seq ?_
 refine co_reg ?_
 refine pk0 (v := pt c 0) h50 rfl fun a62 h62 => ?_; clear h50
 refine pk0 (v := pt c 0) h62 rfl fun a63 h63 => ?_; clear h62
 refine pl_nil ?_
 refine co_then ?_
 refine wp_ret ?_
 refine co_ret1 h63 rfl rfl ?_
 have hk64 := Blk.butS hq42 hb56 (fun hq => absurd hq hne)
 subst hd58; subst hd45
 exact ⟨rfl, hk64, hq55, hB60⟩
end Go.Proofs.Ytbjbcbbhmbpndaa

/- Package tree: balance, way by way. Conditions: depths of at most 900000. -/
namespace Go.Proofs.Ytbjbcbbhmbpndaa
open Go.RowKit Go.PlainAid
set_option linter.unusedVariables false
set_option linter.unusedSimpArgs false

set_option maxRecDepth 100000 in
theorem balA_any (b : Nat) (c : Nat) (ll : Tm) (lr : Tm) (r : Tm) (k : ByteArray) (v : SlT) (d : Int) (k2 : ByteArray) (v2 : SlT) (d2 : Int) (w : World) (hB : Blk w b 180 #[.string k, .slice v.a v.n v.c, .int .i64 d, pt c 0, (ptT r)]) (hC : Blk w c 180 #[.string k2, .slice v2.a v2.n v2.c, .int .i64 d2, (ptT ll), (ptT lr)]) (hll : TreeAt w ll) (hlr : TreeAt w lr) (hr : TreeAt w r) (hnebc : b ≠ c) (n_b_ll : b ∉ bk ll) (n_b_lr : b ∉ bk lr) (n_b_r : b ∉ bk r) (n_c_ll : c ∉ bk ll) (n_c_lr : c ∉ bk lr) (n_c_r : c ∉ bk r) (hdll : 0 ≤ dp ll ∧ dp ll ≤ 900000) (hdlr : 0 ≤ dp lr ∧ dp lr ≤ 900000) (hdr : 0 ≤ dp r ∧ dp r ≤ 900000) (hd2 : 0 ≤ d2 ∧ d2 ≤ 900000) (hdif : d2 - dp r = 2) (hcmp : ¬ (dp ll < dp lr)) :
    Calls Try.prog 121 #[pt b 0] w fun e w' => e = .returned (pt c 0) ∧ Blk w' b 180 #[.string k, .slice v.a v.n v.c, .int .i64 (1 + mx (dp lr) (dp r)), ptT lr, ptT r] ∧ Blk w' c 180 #[.string k2, .slice v2.a v2.n v2.c, .int .i64 (1 + mx (dp ll) (1 + mx (dp lr) (dp r))), ptT ll, pt b 0] ∧ TreeAt w' ll ∧ TreeAt w' lr ∧ TreeAt w' r ∧ But (fun q => q = b ∨ q = c) w w' := by
 have hB0 := But.refl (fun q => q = b ∨ q = c) w
 have hl_hB := hB.lt
 have hl_hC := hC.lt
 have hSb : (fun q => q = b ∨ q = c) b ∨ w.heap.size ≤ b := .inl (by simp)
 have hSc : (fun q => q = b ∨ q = c) c ∨ w.heap.size ≤ c := .inl (by simp)
 refine co_enter (n := 75) Try.func121 rfl rfl rfl [(0, pt b 0)] rfl (fun a h0 => ?_)
 refine co_seq ?_
 refine co_reg ?_
 refine pk0 (v := .pointer none) h0 rfl fun a1 h1 => ?_; clear h0
 refine pl_nil ?_
 refine co_then ?_
 refine co_seq ?_
 refine co_seq ?_
 refine dr_gen (fun x => But (fun q => q = b ∨ q = c) w x ∧ Blk x b 180 #[.string k, .slice v.a v.n v.c, .int .i64 d, pt c 0, (ptT r)]) (by kernel_rfl) (fun w2 hg3 => ?_) (fun w2 hg3 => ?_)
 ·
  have hz4 := hg3.size
  have hB5 := fbU_new hB0 hg3
  have hk6 := hB.kept hg3 (by simp)
  exact ⟨hB5, hk6⟩
 have hz7 := hg3.size
 have hB8 := fbU_new hB0 hg3
 have hk9 := hB.kept hg3 (by simp)
 refine dk0 0 (v := pt b 0) h1 rfl rfl ⟨hB8, hk9⟩ fun a10 h10 => ?_; clear h1
 refine dk0 1 (v := pt b 0) h10 rfl rfl ⟨hB8, hk9⟩ fun a11 h11 => ?_; clear h10
 refine dk0 2 (v := pt b 3) h11 rfl rfl ⟨hB8, hk9⟩ fun a12 h12 => ?_; clear h11
 refine dk 3 (v := pt c 0) h12 rfl rfl ⟨hB8, hk9⟩ (fun x hx => (rn_load1 rfl rfl Try.isAgg176 (hx.2.cell rfl))) fun a13 h13 => ?_; clear h12
 refine dk0 5 (v := pt b 0) h13 rfl rfl ⟨hB8, hk9⟩ fun a14 h14 => ?_; clear h13
 refine dk0 6 (v := pt b 0) h14 rfl rfl ⟨hB8, hk9⟩ fun a15 h15 => ?_; clear h14
 refine dk0 7 (v := pt b 4) h15 rfl rfl ⟨hB8, hk9⟩ fun a16 h16 => ?_; clear h15
 refine dk 8 (v := (ptT r)) h16 rfl rfl ⟨hB8, hk9⟩ (fun x hx => (rn_load1 rfl rfl Try.isAgg176 (hx.2.cell rfl))) fun a17 h17 => ?_; clear h16
 have hk20 := hC.kept hg3 (by simp)
 refine d1 4 h17 rfl rfl (op_call (args := #[pt c 0]) (R := fun res xw => res = .int .i64 d2 ∧ w2 = xw) rfl rfl rfl (by kernel_rfl) (by kernel_rfl) (Try.call135 _ _) (deep_blk w2 hk20) (by rintro e x ⟨rfl, rfl⟩; exact ⟨_, rfl, rfl, rfl⟩)) ?_ ?_; clear h17
 ·
  rintro _ _ ⟨rfl, rfl⟩
  exact ⟨hB8, hk9⟩
 rintro _ _ a18 ⟨rfl, rfl⟩ h18
 have hT23 := hr.gr hg3 (fun q e => by cases e)
 refine d1 9 h18 rfl rfl (op_call (args := #[(ptT r)]) (R := fun res xw => res = .int .i64 (dp r) ∧ w2 = xw) rfl rfl rfl (by kernel_rfl) (by kernel_rfl) (Try.call135 _ _) (deep_any r w2 hT23) (by rintro e x ⟨rfl, rfl⟩; exact ⟨_, rfl, rfl, rfl⟩)) ?_ ?_; clear h18
 ·
  rintro _ _ ⟨rfl, rfl⟩
  exact ⟨hB8, hk9⟩
 rintro _ _ a21 ⟨rfl, rfl⟩ h21
 refine dk 10 (v := .int .i64 (d2 - (dp r))) h21 rfl rfl ⟨hB8, hk9⟩ (fun x hx => (rn_arith rfl rfl rfl rfl rfl rfl (IntWalk.i64_in _ (by omega)))) fun a24 h24 => ?_; clear h21
 refine dr_done (by kernel_rfl) ?_
 refine co_then ?_
 refine wp_block ?_
 refine co_seq ?_
 refine co_reg ?_
 refine pk0 (v := .bool (d2 - (dp r) == 2)) h24 rfl fun a25 h25 => ?_; clear h24
 refine pk0 (v := .bool (d2 - (dp r) == 2)) h25 rfl fun a26 h26 => ?_; clear h25
 refine pl_nil ?_
 refine co_then ?_
 have hc27 : (d2 - (dp r) == 2) = true := by first | (simp; done) | (simp; omega) | exact beq_false_of_ne (by omega) | exact beq_iff_eq.2 (by omega)
 rw [hc27] at h26; clear hc27
 refine co_true h26 rfl ?_
 refine co_seq ?_
 refine co_seq ?_
 refine dr_gen (fun x => But (fun q => q = b ∨ q = c) w x ∧ Blk x b 180 #[.string k, .slice v.a v.n v.c, .int .i64 d, pt c 0, (ptT r)] ∧ Blk x c 180 #[.string k2, .slice v2.a v2.n v2.c, .int .i64 d2, (ptT ll), (ptT lr)]) (by kernel_rfl) (fun w28 hg29 => ?_) (fun w28 hg29 => ?_)
 ·
  have hz30 := hg29.size
  have hB31 := fbU_new hB8 hg29
  have hk32 := hk9.kept hg29 (by simp)
  have hk33 := hk20.kept hg29 (by simp)
  exact ⟨hB31, hk32, hk33⟩
 have hz34 := hg29.size
 have hB35 := fbU_new hB8 hg29
 have hk36 := hk9.kept hg29 (by simp)
 have hk37 := hk20.kept hg29 (by simp)
 refine dk0 0 (v := pt b 0) h26 rfl rfl ⟨hB35, hk36, hk37⟩ fun a38 h38 => ?_; clear h26
 refine dk0 1 (v := pt b 0) h38 rfl rfl ⟨hB35, hk36, hk37⟩ fun a39 h39 => ?_; clear h38
 refine dk0 2 (v := pt b 3) h39 rfl rfl ⟨hB35, hk36, hk37⟩ fun a40 h40 => ?_; clear h39
 refine dk 3 (v := pt c 0) h40 rfl rfl ⟨hB35, hk36, hk37⟩ (fun x hx => (rn_load1 rfl rfl Try.isAgg176 (hx.2.1.cell rfl))) fun a41 h41 => ?_; clear h40
 refine dk0 4 (v := pt c 0) h41 rfl rfl ⟨hB35, hk36, hk37⟩ fun a42 h42 => ?_; clear h41
 refine dk0 5 (v := pt c 3) h42 rfl rfl ⟨hB35, hk36, hk37⟩ fun a43 h43 => ?_; clear h42
 refine dk 6 (v := (ptT ll)) h43 rfl rfl ⟨hB35, hk36, hk37⟩ (fun x hx => (rn_load1 rfl rfl Try.isAgg176 (hx.2.2.cell rfl))) fun a44 h44 => ?_; clear h43
 refine dk0 8 (v := pt b 0) h44 rfl rfl ⟨hB35, hk36, hk37⟩ fun a45 h45 => ?_; clear h44
 refine dk0 9 (v := pt b 0) h45 rfl rfl ⟨hB35, hk36, hk37⟩ fun a46 h46 => ?_; clear h45
 refine dk0 10 (v := pt b 3) h46 rfl rfl ⟨hB35, hk36, hk37⟩ fun a47 h47 => ?_; clear h46
 refine dk 11 (v := pt c 0) h47 rfl rfl ⟨hB35, hk36, hk37⟩ (fun x hx => (rn_load1 rfl rfl Try.isAgg176 (hx.2.1.cell rfl))) fun a48 h48 => ?_; clear h47
 refine dk0 12 (v := pt c 0) h48 rfl rfl ⟨hB35, hk36, hk37⟩ fun a49 h49 => ?_; clear h48
 refine dk0 13 (v := pt c 4) h49 rfl rfl ⟨hB35, hk36, hk37⟩ fun a50 h50 => ?_; clear h49
 refine dk 14 (v := (ptT lr)) h50 rfl rfl ⟨hB35, hk36, hk37⟩ (fun x hx => (rn_load1 rfl rfl Try.isAgg176 (hx.2.2.cell rfl))) fun a51 h51 => ?_; clear h50
 have hT54 := hll.gr hg3 (fun q e => by cases e)
 have hT55 := hT54.gr hg29 (fun q e => by cases e)
 refine d1 7 h51 rfl rfl (op_call (args := #[(ptT ll)]) (R := fun res xw => res = .int .i64 (dp ll) ∧ w28 = xw) rfl rfl rfl (by kernel_rfl) (by kernel_rfl) (Try.call135 _ _) (deep_any ll w28 hT55) (by rintro e x ⟨rfl, rfl⟩; exact ⟨_, rfl, rfl, rfl⟩)) ?_ ?_; clear h51
 ·
  rintro _ _ ⟨rfl, rfl⟩
  exact ⟨hB35, hk36, hk37⟩
 rintro _ _ a52 ⟨rfl, rfl⟩ h52
 have hT58 := hlr.gr hg3 (fun q e => by cases e)
 have hT59 := hT58.gr hg29 (fun q e => by cases e)
 refine d1 15 h52 rfl rfl (op_call (args := #[(ptT lr)]) (R := fun res xw => res = .int .i64 (dp lr) ∧ w28 = xw) rfl rfl rfl (by kernel_rfl) (by kernel_rfl) (Try.call135 _ _) (deep_any lr w28 hT59) (by rintro e x ⟨rfl, rfl⟩; exact ⟨_, rfl, rfl, rfl⟩)) ?_ ?_; clear h52
 ·
  rintro _ _ ⟨rfl, rfl⟩
  exact ⟨hB35, hk36, hk37⟩
 rintro _ _ a56 ⟨rfl, rfl⟩ h56
 refine dk0 16 (v := .bool (decide (dp ll < dp lr))) h56 rfl rfl ⟨hB35, hk36, hk37⟩ fun a60 h60 => ?_; clear h56
 refine dr_done (by kernel_rfl) ?_
 refine co_then ?_
 have hc61 : (decide (dp ll < dp lr)) = false := decide_eq_false (by omega)
 rw [hc61] at h60; clear hc61
 refine co_false h60 rfl ?_
 refine wp_skip ?_
 refine co_then ?_
 refine co_seq ?_
 refine co_reg ?_
 refine pk0 (v := pt b 0) h60 rfl fun a62 h62 => ?_; clear h60
 have hT65 := hT23.gr hg29 (fun q e => by cases e)
 refine pw h62 rfl (op_call (args := #[pt b 0]) (R := fun res xw => res = pt c 0 ∧ Blk xw b 180 #[.string k, .slice v.a v.n v.c, .int .i64 (1 + mx (dp lr) (dp r)), (ptT lr), (ptT r)] ∧ Blk xw c 180 #[.string k2, .slice v2.a v2.n v2.c, .int .i64 (1 + mx (dp ll) (1 + mx (dp lr) (dp r))), (ptT ll), pt b 0] ∧ But (fun q => q = b ∨ q = c) w28 xw) rfl rfl rfl (by kernel_rfl) (by kernel_rfl) (Try.call137 _ _) (upL_any b c ll k2 v2 d2 lr k v d r w28 hk36 hk37 hT55 hT59 hT65 hnebc n_b_ll n_b_lr n_b_r n_c_ll n_c_lr n_c_r (show 0 ≤ (dp ll) ∧ (dp ll) ≤ 990000 from ⟨by omega, by omega⟩) (show 0 ≤ (dp lr) ∧ (dp lr) ≤ 990000 from ⟨by omega, by omega⟩) (show 0 ≤ (dp r) ∧ (dp r) ≤ 990000 from ⟨by omega, by omega⟩)) (by rintro e x ⟨rfl, h1, h2, h3⟩; exact ⟨_, rfl, rfl, h1, h2, h3⟩)) ?_; clear h62
 rintro _ w64 a63 ⟨rfl, hq66, hq67, hb68⟩ h63
 obtain ⟨d69, hd70⟩ : ∃ z : Int, z = 1 + mx (dp lr) (dp r) := ⟨_, rfl⟩; rw [← hd70] at hq66 hq67
 have hd70b := mx_bd3 (a := (dp lr)) (b := (dp r))
 obtain ⟨d71, hd72⟩ : ∃ z : Int, z = 1 + mx (dp ll) d69 := ⟨_, rfl⟩; rw [← hd72] at hq67
 have hd72b := mx_bd3 (a := (dp ll)) (b := d69)
 have hB73 := fbU_foot hB35 hb68 (fun i hi hS => by rcases hS with rfl | rfl <;> simp)
 have hz74 := hb68.size
 refine pk0 (v := pt c 0) h63 rfl fun a75 h75 => ?_; clear h63
 refine pl_nil ?_
 refine co_then ?_
 refine wp_ret ?_
 refine co_blockR ?_
 refine co_thenR ?_
 refine co_ret1 h75 rfl rfl ?_
 have hT76 := TreeAt.but hT55 hb68 (fun q hq => fun hq2 => by rcases hq2 with hq2 | hq2; exact (fun e : q = b => n_b_ll (e ▸ hq)) hq2; exact (fun e : q = c => n_c_ll (e ▸ hq)) hq2)
 have hT77 := TreeAt.but hT59 hb68 (fun q hq => fun hq2 => by rcases hq2 with hq2 | hq2; exact (fun e : q = b => n_b_lr (e ▸ hq)) hq2; exact (fun e : q = c => n_c_lr (e ▸ hq)) hq2)
 have hT78 := TreeAt.but hT65 hb68 (fun q hq => fun hq2 => by rcases hq2 with hq2 | hq2; exact (fun e : q = b => n_b_r (e ▸ hq)) hq2; exact (fun e : q = c => n_c_r (e ▸ hq)) hq2)
 subst hd70
 subst hd72
 exact ⟨rfl, hq66, hq67, hT76, hT77, hT78, hB73⟩
set_option maxRecDepth 100000 in
theorem balB_any (b : Nat) (c : Nat) (g : Nat) (ll : Tm) (el : Tm) (er : Tm) (r : Tm) (k : ByteArray) (v : SlT) (d : Int) (k2 : ByteArray) (v2 : SlT) (d2 : Int) (k3 : ByteArray) (v3 : SlT) (d3 : Int) (w : World) (hB : Blk w b 180 #[.string k, .slice v.a v.n v.c, .int .i64 d, pt c 0, (ptT r)]) (hC : Blk w c 180 #[.string k2, .slice v2.a v2.n v2.c, .int .i64 d2, (ptT ll), pt g 0]) (hE : Blk w g 180 #[.string k3, .slice v3.a v3.n v3.c, .int .i64 d3, (ptT el), (ptT er)]) (hll : TreeAt w ll) (hel : TreeAt w el) (her : TreeAt w er) (hr : TreeAt w r) (hnebc : b ≠ c) (hnebg : b ≠ g) (hnecg : c ≠ g) (n_b_ll : b ∉ bk ll) (n_b_el : b ∉ bk el) (n_b_er : b ∉ bk er) (n_b_r : b ∉ bk r) (n_c_ll : c ∉ bk ll) (n_c_el : c ∉ bk el) (n_c_er : c ∉ bk er) (n_c_r : c ∉ bk r) (n_g_ll : g ∉ bk ll) (n_g_el : g ∉ bk el) (n_g_er : g ∉ bk er) (n_g_r : g ∉ bk r) (hdll : 0 ≤ dp ll ∧ dp ll ≤ 900000) (hdel : 0 ≤ dp el ∧ dp el ≤ 900000) (hder : 0 ≤ dp er ∧ dp er ≤ 900000) (hdr : 0 ≤ dp r ∧ dp r ≤ 900000) (hd2 : 0 ≤ d2 ∧ d2 ≤ 900000) (hd3 : 0 ≤ d3 ∧ d3 ≤ 900000) (hdif : d2 - dp r = 2) (hcmp : dp ll < d3) :
    Calls Try.prog 121 #[pt b 0] w fun e w' => e = .returned (pt g 0) ∧ Blk w' b 180 #[.string k, .slice v.a v.n v.c, .int .i64 (1 + mx (dp er) (dp r)), ptT er, ptT r] ∧ Blk w' c 180 #[.string k2, .slice v2.a v2.n v2.c, .int .i64 (1 + mx (dp ll) (dp el)), ptT ll, ptT el] ∧ Blk w' g 180 #[.string k3, .slice v3.a v3.n v3.c, .int .i64 (1 + mx (1 + mx (dp ll) (dp el)) (1 + mx (dp er) (dp r))), pt c 0, pt b 0] ∧ TreeAt w' ll ∧ TreeAt w' el ∧ TreeAt w' er ∧ TreeAt w' r ∧ But (fun q => q = b ∨ q = c ∨ q = g) w w' := by
 have hB0 := But.refl (fun q => q = b ∨ q = c ∨ q = g) w
 have hl_hB := hB.lt
 have hl_hC := hC.lt
 have hl_hE := hE.lt
 have hSb : (fun q => q = b ∨ q = c ∨ q = g) b ∨ w.heap.size ≤ b := .inl (by simp)
 have hSc : (fun q => q = b ∨ q = c ∨ q = g) c ∨ w.heap.size ≤ c := .inl (by simp)
 have hSg : (fun q => q = b ∨ q = c ∨ q = g) g ∨ w.heap.size ≤ g := .inl (by simp)
 refine co_enter (n := 75) Try.func121 rfl rfl rfl [(0, pt b 0)] rfl (fun a h0 => ?_)
 refine co_seq ?_
 refine co_reg ?_
 refine pk0 (v := .pointer none) h0 rfl fun a1 h1 => ?_; clear h0
 refine pl_nil ?_
 refine co_then ?_
 refine co_seq ?_
 refine co_seq ?_
 refine dr_gen (fun x => But (fun q => q = b ∨ q = c ∨ q = g) w x ∧ Blk x b 180 #[.string k, .slice v.a v.n v.c, .int .i64 d, pt c 0, (ptT r)]) (by kernel_rfl) (fun w2 hg3 => ?_) (fun w2 hg3 => ?_)
 ·
  have hz4 := hg3.size
  have hB5 := fbU_new hB0 hg3
  have hk6 := hB.kept hg3 (by simp)
  exact ⟨hB5, hk6⟩
 have hz7 := hg3.size
 have hB8 := fbU_new hB0 hg3
 have hk9 := hB.kept hg3 (by simp)
 refine dk0 0 (v := pt b 0) h1 rfl rfl ⟨hB8, hk9⟩ fun a10 h10 => ?_; clear h1
 refine dk0 1 (v := pt b 0) h10 rfl rfl ⟨hB8, hk9⟩ fun a11 h11 => ?_; clear h10
 refine dk0 2 (v := pt b 3) h11 rfl rfl ⟨hB8, hk9⟩ fun a12 h12 => ?_; clear h11
 refine dk 3 (v := pt c 0) h12 rfl rfl ⟨hB8, hk9⟩ (fun x hx => (rn_load1 rfl rfl Try.isAgg176 (hx.2.cell rfl))) fun a13 h13 => ?_; clear h12
 refine dk0 5 (v := pt b 0) h13 rfl rfl ⟨hB8, hk9⟩ fun a14 h14 => ?_; clear h13
 refine dk0 6 (v := pt b 0) h14 rfl rfl ⟨hB8, hk9⟩ fun a15 h15 => ?_; clear h14
 refine dk0 7 (v := pt b 4) h15 rfl rfl ⟨hB8, hk9⟩ fun a16 h16 => ?_; clear h15
 refine dk 8 (v := (ptT r)) h16 rfl rfl ⟨hB8, hk9⟩ (fun x hx => (rn_load1 rfl rfl Try.isAgg176 (hx.2.cell rfl))) fun a17 h17 => ?_; clear h16
 have hk20 := hC.kept hg3 (by simp)
 refine d1 4 h17 rfl rfl (op_call (args := #[pt c 0]) (R := fun res xw => res = .int .i64 d2 ∧ w2 = xw) rfl rfl rfl (by kernel_rfl) (by kernel_rfl) (Try.call135 _ _) (deep_blk w2 hk20) (by rintro e x ⟨rfl, rfl⟩; exact ⟨_, rfl, rfl, rfl⟩)) ?_ ?_; clear h17
 ·
  rintro _ _ ⟨rfl, rfl⟩
  exact ⟨hB8, hk9⟩
 rintro _ _ a18 ⟨rfl, rfl⟩ h18
 have hT23 := hr.gr hg3 (fun q e => by cases e)
 refine d1 9 h18 rfl rfl (op_call (args := #[(ptT r)]) (R := fun res xw => res = .int .i64 (dp r) ∧ w2 = xw) rfl rfl rfl (by kernel_rfl) (by kernel_rfl) (Try.call135 _ _) (deep_any r w2 hT23) (by rintro e x ⟨rfl, rfl⟩; exact ⟨_, rfl, rfl, rfl⟩)) ?_ ?_; clear h18
 ·
  rintro _ _ ⟨rfl, rfl⟩
  exact ⟨hB8, hk9⟩
 rintro _ _ a21 ⟨rfl, rfl⟩ h21
 refine dk 10 (v := .int .i64 (d2 - (dp r))) h21 rfl rfl ⟨hB8, hk9⟩ (fun x hx => (rn_arith rfl rfl rfl rfl rfl rfl (IntWalk.i64_in _ (by omega)))) fun a24 h24 => ?_; clear h21
 refine dr_done (by kernel_rfl) ?_
 refine co_then ?_
 refine wp_block ?_
 refine co_seq ?_
 refine co_reg ?_
 refine pk0 (v := .bool (d2 - (dp r) == 2)) h24 rfl fun a25 h25 => ?_; clear h24
 refine pk0 (v := .bool (d2 - (dp r) == 2)) h25 rfl fun a26 h26 => ?_; clear h25
 refine pl_nil ?_
 refine co_then ?_
 have hc27 : (d2 - (dp r) == 2) = true := by first | (simp; done) | (simp; omega) | exact beq_false_of_ne (by omega) | exact beq_iff_eq.2 (by omega)
 rw [hc27] at h26; clear hc27
 refine co_true h26 rfl ?_
 refine co_seq ?_
 refine co_seq ?_
 refine dr_gen (fun x => But (fun q => q = b ∨ q = c ∨ q = g) w x ∧ Blk x b 180 #[.string k, .slice v.a v.n v.c, .int .i64 d, pt c 0, (ptT r)] ∧ Blk x c 180 #[.string k2, .slice v2.a v2.n v2.c, .int .i64 d2, (ptT ll), pt g 0]) (by kernel_rfl) (fun w28 hg29 => ?_) (fun w28 hg29 => ?_)
 ·
  have hz30 := hg29.size
  have hB31 := fbU_new hB8 hg29
  have hk32 := hk9.kept hg29 (by simp)
  have hk33 := hk20.kept hg29 (by simp)
  exact ⟨hB31, hk32, hk33⟩
 have hz34 := hg29.size
 have hB35 := fbU_new hB8 hg29
 have hk36 := hk9.kept hg29 (by simp)
 have hk37 := hk20.kept hg29 (by simp)
 refine dk0 0 (v := pt b 0) h26 rfl rfl ⟨hB35, hk36, hk37⟩ fun a38 h38 => ?_; clear h26
 refine dk0 1 (v := pt b 0) h38 rfl rfl ⟨hB35, hk36, hk37⟩ fun a39 h39 => ?_; clear h38
 refine dk0 2 (v := pt b 3) h39 rfl rfl ⟨hB35, hk36, hk37⟩ fun a40 h40 => ?_; clear h39
 refine dk 3 (v := pt c 0) h40 rfl rfl ⟨hB35, hk36, hk37⟩ (fun x hx => (rn_load1 rfl rfl Try.isAgg176 (hx.2.1.cell rfl))) fun a41 h41 => ?_; clear h40
 refine dk0 4 (v := pt c 0) h41 rfl rfl ⟨hB35, hk36, hk37⟩ fun a42 h42 => ?_; clear h41
 refine dk0 5 (v := pt c 3) h42 rfl rfl ⟨hB35, hk36, hk37⟩ fun a43 h43 => ?_; clear h42
 refine dk 6 (v := (ptT ll)) h43 rfl rfl ⟨hB35, hk36, hk37⟩ (fun x hx => (rn_load1 rfl rfl Try.isAgg176 (hx.2.2.cell rfl))) fun a44 h44 => ?_; clear h43
 refine dk0 8 (v := pt b 0) h44 rfl rfl ⟨hB35, hk36, hk37⟩ fun a45 h45 => ?_; clear h44
 refine dk0 9 (v := pt b 0) h45 rfl rfl ⟨hB35, hk36, hk37⟩ fun a46 h46 => ?_; clear h45
 refine dk0 10 (v := pt b 3) h46 rfl rfl ⟨hB35, hk36, hk37⟩ fun a47 h47 => ?_; clear h46
 refine dk 11 (v := pt c 0) h47 rfl rfl ⟨hB35, hk36, hk37⟩ (fun x hx => (rn_load1 rfl rfl Try.isAgg176 (hx.2.1.cell rfl))) fun a48 h48 => ?_; clear h47
 refine dk0 12 (v := pt c 0) h48 rfl rfl ⟨hB35, hk36, hk37⟩ fun a49 h49 => ?_; clear h48
 refine dk0 13 (v := pt c 4) h49 rfl rfl ⟨hB35, hk36, hk37⟩ fun a50 h50 => ?_; clear h49
 refine dk 14 (v := pt g 0) h50 rfl rfl ⟨hB35, hk36, hk37⟩ (fun x hx => (rn_load1 rfl rfl Try.isAgg176 (hx.2.2.cell rfl))) fun a51 h51 => ?_; clear h50
 have hT54 := hll.gr hg3 (fun q e => by cases e)
 have hT55 := hT54.gr hg29 (fun q e => by cases e)
 refine d1 7 h51 rfl rfl (op_call (args := #[(ptT ll)]) (R := fun res xw => res = .int .i64 (dp ll) ∧ w28 = xw) rfl rfl rfl (by kernel_rfl) (by kernel_rfl) (Try.call135 _ _) (deep_any ll w28 hT55) (by rintro e x ⟨rfl, rfl⟩; exact ⟨_, rfl, rfl, rfl⟩)) ?_ ?_; clear h51
 ·
  rintro _ _ ⟨rfl, rfl⟩
  exact ⟨hB35, hk36, hk37⟩
 rintro _ _ a52 ⟨rfl, rfl⟩ h52
 have hk58 := hE.kept hg3 (by simp)
 have hk59 := hk58.kept hg29 (by simp)
 refine d1 15 h52 rfl rfl (op_call (args := #[pt g 0]) (R := fun res xw => res = .int .i64 d3 ∧ w28 = xw) rfl rfl rfl (by kernel_rfl) (by kernel_rfl) (Try.call135 _ _) (deep_blk w28 hk59) (by rintro e x ⟨rfl, rfl⟩; exact ⟨_, rfl, rfl, rfl⟩)) ?_ ?_; clear h52
 ·
  rintro _ _ ⟨rfl, rfl⟩
  exact ⟨hB35, hk36, hk37⟩
 rintro _ _ a56 ⟨rfl, rfl⟩ h56
 refine dk0 16 (v := .bool (decide (dp ll < d3))) h56 rfl rfl ⟨hB35, hk36, hk37⟩ fun a60 h60 => ?_; clear h56
 refine dr_done (by kernel_rfl) ?_
 refine co_then ?_
 have hc61 : (decide (dp ll < d3)) = true := decide_eq_true (by omega)
 rw [hc61] at h60; clear hc61
 refine co_true h60 rfl ?_
 refine co_reg ?_
 refine pk0 (v := pt b 0) h60 rfl fun a62 h62 => ?_; clear h60
 refine pk0 (v := pt b 0) h62 rfl fun a63 h63 => ?_; clear h62
 refine pk0 (v := pt b 0) h63 rfl fun a64 h64 => ?_; clear h63
 refine pk0 (v := pt b 3) h64 rfl fun a65 h65 => ?_; clear h64
 refine pk (v := pt c 0) h65 rfl (rn_load1 rfl rfl Try.isAgg176 (hk36.cell rfl)) fun a66 h66 => ?_; clear h65
 have hT69 := hel.gr hg3 (fun q e => by cases e)
 have hT70 := hT69.gr hg29 (fun q e => by cases e)
 have hT71 := her.gr hg3 (fun q e => by cases e)
 have hT72 := hT71.gr hg29 (fun q e => by cases e)
 refine pw h66 rfl (op_call (args := #[pt c 0]) (R := fun res xw => res = pt g 0 ∧ Blk xw c 180 #[.string k2, .slice v2.a v2.n v2.c, .int .i64 (1 + mx (dp ll) (dp el)), (ptT ll), (ptT el)] ∧ Blk xw g 180 #[.string k3, .slice v3.a v3.n v3.c, .int .i64 (1 + mx (1 + mx (dp ll) (dp el)) (dp er)), pt c 0, (ptT er)] ∧ But (fun q => q = c ∨ q = g) w28 xw) rfl rfl rfl (by kernel_rfl) (by kernel_rfl) (Try.call136 _ _) (upR_any c g er k3 v3 d3 el k2 v2 d2 ll w28 hk37 hk59 hT72 hT70 hT55 hnecg n_c_er n_c_el n_c_ll n_g_er n_g_el n_g_ll (show 0 ≤ (dp er) ∧ (dp er) ≤ 990000 from ⟨by omega, by omega⟩) (show 0 ≤ (dp el) ∧ (dp el) ≤ 990000 from ⟨by omega, by omega⟩) (show 0 ≤ (dp ll) ∧ (dp ll) ≤ 990000 from ⟨by omega, by omega⟩)) (by rintro e x ⟨rfl, h1, h2, h3⟩; exact ⟨_, rfl, rfl, h1, h2, h3⟩)) ?_; clear h66
 rintro _ w68 a67 ⟨rfl, hq73, hq74, hb75⟩ h67
 obtain ⟨d76, hd77⟩ : ∃ z : Int, z = 1 + mx (dp ll) (dp el) := ⟨_, rfl⟩; rw [← hd77] at hq73 hq74
 have hd77b := mx_bd3 (a := (dp ll)) (b := (dp el))
 obtain ⟨d78, hd79⟩ : ∃ z : Int, z = 1 + mx d76 (dp er) := ⟨_, rfl⟩; rw [← hd79] at hq74
 have hd79b := mx_bd3 (a := d76) (b := (dp er))
 have hB80 := fbU_foot hB35 hb75 (fun i hi hS => by rcases hS with rfl | rfl <;> simp)
 have hz81 := hb75.size
 refine pk0 (v := pt b 0) h67 rfl fun a82 h82 => ?_; clear h67
 refine pk0 (v := pt b 3) h82 rfl fun a83 h83 => ?_; clear h82
 have hk89 := Blk.butS hk36 hb75 (fun hq => by rcases hq with hq | hq; exact absurd hq hnebc; exact absurd hq hnebg)
 refine pwD h83 rfl (op_store1 rfl rfl rfl rfl Try.sizeOf176 hk89 rfl) ?_; clear h83
 rintro _ w85 a84 ⟨hk86, hz87, hg88⟩ h84
 have hk86' : Blk w85 b 180 #[.string k, .slice v.a v.n v.c, .int .i64 d, pt g 0, (ptT r)] := hk86; clear hk86
 have hz90 := hg88.size
 refine pl_nil ?_
 refine co_then ?_
 refine co_seq ?_
 refine co_reg ?_
 refine pk0 (v := pt b 0) h84 rfl fun a91 h91 => ?_; clear h84
 have hB94 := fbU_at hB80 hg88 (fun hlt => by rcases hSb with hq | hq; exact hq; omega)
 have hT95 := TreeAt.but hT55 hb75 (fun q hq => fun hq2 => by rcases hq2 with hq2 | hq2; exact (fun e : q = c => n_c_ll (e ▸ hq)) hq2; exact (fun e : q = g => n_g_ll (e ▸ hq)) hq2)
 have hT96 := hT95.gr hg88 (fun q e => by cases e; exact n_b_ll)
 have hT97 := TreeAt.but hT70 hb75 (fun q hq => fun hq2 => by rcases hq2 with hq2 | hq2; exact (fun e : q = c => n_c_el (e ▸ hq)) hq2; exact (fun e : q = g => n_g_el (e ▸ hq)) hq2)
 have hT98 := hT97.gr hg88 (fun q e => by cases e; exact n_b_el)
 have hT99 := TreeAt.but hT72 hb75 (fun q hq => fun hq2 => by rcases hq2 with hq2 | hq2; exact (fun e : q = c => n_c_er (e ▸ hq)) hq2; exact (fun e : q = g => n_g_er (e ▸ hq)) hq2)
 have hT100 := hT99.gr hg88 (fun q e => by cases e; exact n_b_er)
 have hT101 := hT23.gr hg29 (fun q e => by cases e)
 have hT102 := TreeAt.but hT101 hb75 (fun q hq => fun hq2 => by rcases hq2 with hq2 | hq2; exact (fun e : q = c => n_c_r (e ▸ hq)) hq2; exact (fun e : q = g => n_g_r (e ▸ hq)) hq2)
 have hT103 := hT102.gr hg88 (fun q e => by cases e; exact n_b_r)
 have hk104 := hq73.kept hg88 (by simp; omega)
 have hk112 := hq74.kept hg88 (by simp; omega)
 refine pw h91 rfl (op_call (args := #[pt b 0]) (R := fun res xw => res = pt g 0 ∧ Blk xw b 180 #[.string k, .slice v.a v.n v.c, .int .i64 (1 + mx (dp er) (dp r)), (ptT er), (ptT r)] ∧ Blk xw g 180 #[.string k3, .slice v3.a v3.n v3.c, .int .i64 (1 + mx d76 (1 + mx (dp er) (dp r))), pt c 0, pt b 0] ∧ But (fun q => q = b ∨ q = g) w85 xw) rfl rfl rfl (by kernel_rfl) (by kernel_rfl) (Try.call137 _ _) (upL_any b g (Tm.nd c ll k2 v2 d76 el) k3 v3 d78 er k v d r w85 hk86' hk112 ⟨hk104, hT96, hT98⟩ hT100 hT103 hnebg (nin_nd hnebc n_b_ll n_b_el) n_b_er n_b_r (nin_nd (Ne.symm hnecg) n_g_ll n_g_el) n_g_er n_g_r (show 0 ≤ d76 ∧ d76 ≤ 990000 from ⟨by omega, by omega⟩) (show 0 ≤ (dp er) ∧ (dp er) ≤ 990000 from ⟨by omega, by omega⟩) (show 0 ≤ (dp r) ∧ (dp r) ≤ 990000 from ⟨by omega, by omega⟩)) (by rintro e x ⟨rfl, h1, h2, h3⟩; exact ⟨_, rfl, rfl, h1, h2, h3⟩)) ?_; clear h91
 rintro _ w93 a92 ⟨rfl, hq105, hq106, hb107⟩ h92
 obtain ⟨d108, hd109⟩ : ∃ z : Int, z = 1 + mx (dp er) (dp r) := ⟨_, rfl⟩; rw [← hd109] at hq105 hq106
 have hd109b := mx_bd3 (a := (dp er)) (b := (dp r))
 obtain ⟨d110, hd111⟩ : ∃ z : Int, z = 1 + mx d76 d108 := ⟨_, rfl⟩; rw [← hd111] at hq106
 have hd111b := mx_bd3 (a := d76) (b := d108)
 have hB113 := fbU_foot hB94 hb107 (fun i hi hS => by rcases hS with rfl | rfl <;> simp)
 have hz114 := hb107.size
 refine pk0 (v := pt g 0) h92 rfl fun a115 h115 => ?_; clear h92
 refine pl_nil ?_
 refine co_then ?_
 refine wp_ret ?_
 refine co_blockR ?_
 refine co_thenR ?_
 refine co_ret1 h115 rfl rfl ?_
 have hk116 := Blk.butS hk104 hb107 (fun hq => by rcases hq with hq | hq; exact absurd hq (Ne.symm hnebc); exact absurd hq hnecg)
 have hT117 := TreeAt.but hT96 hb107 (fun q hq => fun hq2 => by rcases hq2 with hq2 | hq2; exact (fun e : q = b => n_b_ll (e ▸ hq)) hq2; exact (fun e : q = g => n_g_ll (e ▸ hq)) hq2)
 have hT118 := TreeAt.but hT98 hb107 (fun q hq => fun hq2 => by rcases hq2 with hq2 | hq2; exact (fun e : q = b => n_b_el (e ▸ hq)) hq2; exact (fun e : q = g => n_g_el (e ▸ hq)) hq2)
 have hT119 := TreeAt.but hT100 hb107 (fun q hq => fun hq2 => by rcases hq2 with hq2 | hq2; exact (fun e : q = b => n_b_er (e ▸ hq)) hq2; exact (fun e : q = g => n_g_er (e ▸ hq)) hq2)
 have hT120 := TreeAt.but hT103 hb107 (fun q hq => fun hq2 => by rcases hq2 with hq2 | hq2; exact (fun e : q = b => n_b_r (e ▸ hq)) hq2; exact (fun e : q = g => n_g_r (e ▸ hq)) hq2)
 subst hd109
 subst hd111
 subst hd77
 subst hd79
 exact ⟨rfl, hq105, hk116, hq106, hT117, hT118, hT119, hT120, hB113⟩
set_option maxRecDepth 100000 in
theorem balC_any (b : Nat) (c : Nat) (ll : Tm) (lr : Tm) (r : Tm) (k : ByteArray) (v : SlT) (d : Int) (k2 : ByteArray) (v2 : SlT) (d2 : Int) (w : World) (hB : Blk w b 180 #[.string k, .slice v.a v.n v.c, .int .i64 d, (ptT r), pt c 0]) (hC : Blk w c 180 #[.string k2, .slice v2.a v2.n v2.c, .int .i64 d2, (ptT lr), (ptT ll)]) (hll : TreeAt w ll) (hlr : TreeAt w lr) (hr : TreeAt w r) (hnebc : b ≠ c) (n_b_ll : b ∉ bk ll) (n_b_lr : b ∉ bk lr) (n_b_r : b ∉ bk r) (n_c_ll : c ∉ bk ll) (n_c_lr : c ∉ bk lr) (n_c_r : c ∉ bk r) (hdll : 0 ≤ dp ll ∧ dp ll ≤ 900000) (hdlr : 0 ≤ dp lr ∧ dp lr ≤ 900000) (hdr : 0 ≤ dp r ∧ dp r ≤ 900000) (hd2 : 0 ≤ d2 ∧ d2 ≤ 900000) (hdif : dp r - d2 = -2) (hcmp : ¬ (dp ll < dp lr)) :
    Calls Try.prog 121 #[pt b 0] w fun e w' => e = .returned (pt c 0) ∧ Blk w' b 180 #[.string k, .slice v.a v.n v.c, .int .i64 (1 + mx (dp r) (dp lr)), ptT r, ptT lr] ∧ Blk w' c 180 #[.string k2, .slice v2.a v2.n v2.c, .int .i64 (1 + mx (1 + mx (dp r) (dp lr)) (dp ll)), pt b 0, ptT ll] ∧ TreeAt w' ll ∧ TreeAt w' lr ∧ TreeAt w' r ∧ But (fun q => q = b ∨ q = c) w w' := by
 have hB0 := But.refl (fun q => q = b ∨ q = c) w
 have hl_hB := hB.lt
 have hl_hC := hC.lt
 have hSb : (fun q => q = b ∨ q = c) b ∨ w.heap.size ≤ b := .inl (by simp)
 have hSc : (fun q => q = b ∨ q = c) c ∨ w.heap.size ≤ c := .inl (by simp)
 refine co_enter (n := 75) Try.func121 rfl rfl rfl [(0, pt b 0)] rfl (fun a h0 => ?_)
 refine co_seq ?_
 refine co_reg ?_
 refine pk0 (v := .pointer none) h0 rfl fun a1 h1 => ?_; clear h0
 refine pl_nil ?_
 refine co_then ?_
 refine co_seq ?_
 refine co_seq ?_
 refine dr_gen (fun x => But (fun q => q = b ∨ q = c) w x ∧ Blk x b 180 #[.string k, .slice v.a v.n v.c, .int .i64 d, (ptT r), pt c 0]) (by kernel_rfl) (fun w2 hg3 => ?_) (fun w2 hg3 => ?_)
 ·
  have hz4 := hg3.size
  have hB5 := fbU_new hB0 hg3
  have hk6 := hB.kept hg3 (by simp)
  exact ⟨hB5, hk6⟩
 have hz7 := hg3.size
 have hB8 := fbU_new hB0 hg3
 have hk9 := hB.kept hg3 (by simp)
 refine dk0 0 (v := pt b 0) h1 rfl rfl ⟨hB8, hk9⟩ fun a10 h10 => ?_; clear h1
 refine dk0 1 (v := pt b 0) h10 rfl rfl ⟨hB8, hk9⟩ fun a11 h11 => ?_; clear h10
 refine dk0 2 (v := pt b 3) h11 rfl rfl ⟨hB8, hk9⟩ fun a12 h12 => ?_; clear h11
 refine dk 3 (v := (ptT r)) h12 rfl rfl ⟨hB8, hk9⟩ (fun x hx => (rn_load1 rfl rfl Try.isAgg176 (hx.2.cell rfl))) fun a13 h13 => ?_; clear h12
 refine dk0 5 (v := pt b 0) h13 rfl rfl ⟨hB8, hk9⟩ fun a14 h14 => ?_; clear h13
 refine dk0 6 (v := pt b 0) h14 rfl rfl ⟨hB8, hk9⟩ fun a15 h15 => ?_; clear h14
 refine dk0 7 (v := pt b 4) h15 rfl rfl ⟨hB8, hk9⟩ fun a16 h16 => ?_; clear h15
 refine dk 8 (v := pt c 0) h16 rfl rfl ⟨hB8, hk9⟩ (fun x hx => (rn_load1 rfl rfl Try.isAgg176 (hx.2.cell rfl))) fun a17 h17 => ?_; clear h16
 have hT20 := hr.gr hg3 (fun q e => by cases e)
 refine d1 4 h17 rfl rfl (op_call (args := #[(ptT r)]) (R := fun res xw => res = .int .i64 (dp r) ∧ w2 = xw) rfl rfl rfl (by kernel_rfl) (by kernel_rfl) (Try.call135 _ _) (deep_any r w2 hT20) (by rintro e x ⟨rfl, rfl⟩; exact ⟨_, rfl, rfl, rfl⟩)) ?_ ?_; clear h17
 ·
  rintro _ _ ⟨rfl, rfl⟩
  exact ⟨hB8, hk9⟩
 rintro _ _ a18 ⟨rfl, rfl⟩ h18
 have hk23 := hC.kept hg3 (by simp)
 refine d1 9 h18 rfl rfl (op_call (args := #[pt c 0]) (R := fun res xw => res = .int .i64 d2 ∧ w2 = xw) rfl rfl rfl (by kernel_rfl) (by kernel_rfl) (Try.call135 _ _) (deep_blk w2 hk23) (by rintro e x ⟨rfl, rfl⟩; exact ⟨_, rfl, rfl, rfl⟩)) ?_ ?_; clear h18
 ·
  rintro _ _ ⟨rfl, rfl⟩
  exact ⟨hB8, hk9⟩
 rintro _ _ a21 ⟨rfl, rfl⟩ h21
 refine dk 10 (v := .int .i64 ((dp r) - d2)) h21 rfl rfl ⟨hB8, hk9⟩ (fun x hx => (rn_arith rfl rfl rfl rfl rfl rfl (IntWalk.i64_in _ (by omega)))) fun a24 h24 => ?_; clear h21
 refine dr_done (by kernel_rfl) ?_
 refine co_then ?_
 refine wp_block ?_
 refine co_seq ?_
 refine co_reg ?_
 refine pk0 (v := .bool ((dp r) - d2 == 2)) h24 rfl fun a25 h25 => ?_; clear h24
 refine pk0 (v := .bool ((dp r) - d2 == 2)) h25 rfl fun a26 h26 => ?_; clear h25
 refine pl_nil ?_
 refine co_then ?_
 have hc27 : ((dp r) - d2 == 2) = false := by first | (simp; done) | (simp; omega) | exact beq_false_of_ne (by omega) | exact beq_iff_eq.2 (by omega)
 rw [hc27] at h26; clear hc27
 refine co_false h26 rfl ?_
 refine co_seq ?_
 refine co_reg ?_
 refine pk0 (v := .bool ((dp r) - d2 == (-2))) h26 rfl fun a28 h28 => ?_; clear h26
 refine pk0 (v := .bool ((dp r) - d2 == (-2))) h28 rfl fun a29 h29 => ?_; clear h28
 refine pl_nil ?_
 refine co_then ?_
 have hc30 : ((dp r) - d2 == (-2)) = true := by first | (simp; done) | (simp; omega) | exact beq_false_of_ne (by omega) | exact beq_iff_eq.2 (by omega)
 rw [hc30] at h29; clear hc30
 refine co_true h29 rfl ?_
 refine co_seq ?_
 refine co_seq ?_
 refine dr_gen (fun x => But (fun q => q = b ∨ q = c) w x ∧ Blk x b 180 #[.string k, .slice v.a v.n v.c, .int .i64 d, (ptT r), pt c 0] ∧ Blk x c 180 #[.string k2, .slice v2.a v2.n v2.c, .int .i64 d2, (ptT lr), (ptT ll)]) (by kernel_rfl) (fun w31 hg32 => ?_) (fun w31 hg32 => ?_)
 ·
  have hz33 := hg32.size
  have hB34 := fbU_new hB8 hg32
  have hk35 := hk9.kept hg32 (by simp)
  have hk36 := hk23.kept hg32 (by simp)
  exact ⟨hB34, hk35, hk36⟩
 have hz37 := hg32.size
 have hB38 := fbU_new hB8 hg32
 have hk39 := hk9.kept hg32 (by simp)
 have hk40 := hk23.kept hg32 (by simp)
 refine dk0 0 (v := pt b 0) h29 rfl rfl ⟨hB38, hk39, hk40⟩ fun a41 h41 => ?_; clear h29
 refine dk0 1 (v := pt b 0) h41 rfl rfl ⟨hB38, hk39, hk40⟩ fun a42 h42 => ?_; clear h41
 refine dk0 2 (v := pt b 4) h42 rfl rfl ⟨hB38, hk39, hk40⟩ fun a43 h43 => ?_; clear h42
 refine dk 3 (v := pt c 0) h43 rfl rfl ⟨hB38, hk39, hk40⟩ (fun x hx => (rn_load1 rfl rfl Try.isAgg176 (hx.2.1.cell rfl))) fun a44 h44 => ?_; clear h43
 refine dk0 4 (v := pt c 0) h44 rfl rfl ⟨hB38, hk39, hk40⟩ fun a45 h45 => ?_; clear h44
 refine dk0 5 (v := pt c 4) h45 rfl rfl ⟨hB38, hk39, hk40⟩ fun a46 h46 => ?_; clear h45
 refine dk 6 (v := (ptT ll)) h46 rfl rfl ⟨hB38, hk39, hk40⟩ (fun x hx => (rn_load1 rfl rfl Try.isAgg176 (hx.2.2.cell rfl))) fun a47 h47 => ?_; clear h46
 refine dk0 8 (v := pt b 0) h47 rfl rfl ⟨hB38, hk39, hk40⟩ fun a48 h48 => ?_; clear h47
 refine dk0 9 (v := pt b 0) h48 rfl rfl ⟨hB38, hk39, hk40⟩ fun a49 h49 => ?_; clear h48
 refine dk0 10 (v := pt b 4) h49 rfl rfl ⟨hB38, hk39, hk40⟩ fun a50 h50 => ?_; clear h49
 refine dk 11 (v := pt c 0) h50 rfl rfl ⟨hB38, hk39, hk40⟩ (fun x hx => (rn_load1 rfl rfl Try.isAgg176 (hx.2.1.cell rfl))) fun a51 h51 => ?_; clear h50
 refine dk0 12 (v := pt c 0) h51 rfl rfl ⟨hB38, hk39, hk40⟩ fun a52 h52 => ?_; clear h51
 refine dk0 13 (v := pt c 3) h52 rfl rfl ⟨hB38, hk39, hk40⟩ fun a53 h53 => ?_; clear h52
 refine dk 14 (v := (ptT lr)) h53 rfl rfl ⟨hB38, hk39, hk40⟩ (fun x hx => (rn_load1 rfl rfl Try.isAgg176 (hx.2.2.cell rfl))) fun a54 h54 => ?_; clear h53
 have hT57 := hll.gr hg3 (fun q e => by cases e)
 have hT58 := hT57.gr hg32 (fun q e => by cases e)
 refine d1 7 h54 rfl rfl (op_call (args := #[(ptT ll)]) (R := fun res xw => res = .int .i64 (dp ll) ∧ w31 = xw) rfl rfl rfl (by kernel_rfl) (by kernel_rfl) (Try.call135 _ _) (deep_any ll w31 hT58) (by rintro e x ⟨rfl, rfl⟩; exact ⟨_, rfl, rfl, rfl⟩)) ?_ ?_; clear h54
 ·
  rintro _ _ ⟨rfl, rfl⟩
  exact ⟨hB38, hk39, hk40⟩
 rintro _ _ a55 ⟨rfl, rfl⟩ h55
 have hT61 := hlr.gr hg3 (fun q e => by cases e)
 have hT62 := hT61.gr hg32 (fun q e => by cases e)
 refine d1 15 h55 rfl rfl (op_call (args := #[(ptT lr)]) (R := fun res xw => res = .int .i64 (dp lr) ∧ w31 = xw) rfl rfl rfl (by kernel_rfl) (by kernel_rfl) (Try.call135 _ _) (deep_any lr w31 hT62) (by rintro e x ⟨rfl, rfl⟩; exact ⟨_, rfl, rfl, rfl⟩)) ?_ ?_; clear h55
 ·
  rintro _ _ ⟨rfl, rfl⟩
  exact ⟨hB38, hk39, hk40⟩
 rintro _ _ a59 ⟨rfl, rfl⟩ h59
 refine dk0 16 (v := .bool (decide (dp ll < dp lr))) h59 rfl rfl ⟨hB38, hk39, hk40⟩ fun a63 h63 => ?_; clear h59
 refine dr_done (by kernel_rfl) ?_
 refine co_then ?_
 have hc64 : (decide (dp ll < dp lr)) = false := decide_eq_false (by omega)
 rw [hc64] at h63; clear hc64
 refine co_false h63 rfl ?_
 refine wp_skip ?_
 refine co_then ?_
 refine co_seq ?_
 refine co_reg ?_
 refine pk0 (v := pt b 0) h63 rfl fun a65 h65 => ?_; clear h63
 have hT68 := hT20.gr hg32 (fun q e => by cases e)
 refine pw h65 rfl (op_call (args := #[pt b 0]) (R := fun res xw => res = pt c 0 ∧ Blk xw b 180 #[.string k, .slice v.a v.n v.c, .int .i64 (1 + mx (dp r) (dp lr)), (ptT r), (ptT lr)] ∧ Blk xw c 180 #[.string k2, .slice v2.a v2.n v2.c, .int .i64 (1 + mx (1 + mx (dp r) (dp lr)) (dp ll)), pt b 0, (ptT ll)] ∧ But (fun q => q = b ∨ q = c) w31 xw) rfl rfl rfl (by kernel_rfl) (by kernel_rfl) (Try.call136 _ _) (upR_any b c ll k2 v2 d2 lr k v d r w31 hk39 hk40 hT58 hT62 hT68 hnebc n_b_ll n_b_lr n_b_r n_c_ll n_c_lr n_c_r (show 0 ≤ (dp ll) ∧ (dp ll) ≤ 990000 from ⟨by omega, by omega⟩) (show 0 ≤ (dp lr) ∧ (dp lr) ≤ 990000 from ⟨by omega, by omega⟩) (show 0 ≤ (dp r) ∧ (dp r) ≤ 990000 from ⟨by omega, by omega⟩)) (by rintro e x ⟨rfl, h1, h2, h3⟩; exact ⟨_, rfl, rfl, h1, h2, h3⟩)) ?_; clear h65
 rintro _ w67 a66 ⟨rfl, hq69, hq70, hb71⟩ h66
 obtain ⟨d72, hd73⟩ : ∃ z : Int, z = 1 + mx (dp r) (dp lr) := ⟨_, rfl⟩; rw [← hd73] at hq69 hq70
 have hd73b := mx_bd3 (a := (dp r)) (b := (dp lr))
 obtain ⟨d74, hd75⟩ : ∃ z : Int, z = 1 + mx d72 (dp ll) := ⟨_, rfl⟩; rw [← hd75] at hq70
 have hd75b := mx_bd3 (a := d72) (b := (dp ll))
 have hB76 := fbU_foot hB38 hb71 (fun i hi hS => by rcases hS with rfl | rfl <;> simp)
 have hz77 := hb71.size
 refine pk0 (v := pt c 0) h66 rfl fun a78 h78 => ?_; clear h66
 refine pl_nil ?_
 refine co_then ?_
 refine wp_ret ?_
 refine co_blockR ?_
 refine co_thenR ?_
 refine co_ret1 h78 rfl rfl ?_
 have hT79 := TreeAt.but hT58 hb71 (fun q hq => fun hq2 => by rcases hq2 with hq2 | hq2; exact (fun e : q = b => n_b_ll (e ▸ hq)) hq2; exact (fun e : q = c => n_c_ll (e ▸ hq)) hq2)
 have hT80 := TreeAt.but hT62 hb71 (fun q hq => fun hq2 => by rcases hq2 with hq2 | hq2; exact (fun e : q = b => n_b_lr (e ▸ hq)) hq2; exact (fun e : q = c => n_c_lr (e ▸ hq)) hq2)
 have hT81 := TreeAt.but hT68 hb71 (fun q hq => fun hq2 => by rcases hq2 with hq2 | hq2; exact (fun e : q = b => n_b_r (e ▸ hq)) hq2; exact (fun e : q = c => n_c_r (e ▸ hq)) hq2)
 subst hd73
 subst hd75
 exact ⟨rfl, hq69, hq70, hT79, hT80, hT81, hB76⟩
set_option maxRecDepth 100000 in
theorem balD_any (b : Nat) (c : Nat) (g : Nat) (ll : Tm) (el : Tm) (er : Tm) (r : Tm) (k : ByteArray) (v : SlT) (d : Int) (k2 : ByteArray) (v2 : SlT) (d2 : Int) (k3 : ByteArray) (v3 : SlT) (d3 : Int) (w : World) (hB : Blk w b 180 #[.string k, .slice v.a v.n v.c, .int .i64 d, (ptT r), pt c 0]) (hC : Blk w c 180 #[.string k2, .slice v2.a v2.n v2.c, .int .i64 d2, pt g 0, (ptT ll)]) (hE : Blk w g 180 #[.string k3, .slice v3.a v3.n v3.c, .int .i64 d3, (ptT er), (ptT el)]) (hll : TreeAt w ll) (hel : TreeAt w el) (her : TreeAt w er) (hr : TreeAt w r) (hnebc : b ≠ c) (hnebg : b ≠ g) (hnecg : c ≠ g) (n_b_ll : b ∉ bk ll) (n_b_el : b ∉ bk el) (n_b_er : b ∉ bk er) (n_b_r : b ∉ bk r) (n_c_ll : c ∉ bk ll) (n_c_el : c ∉ bk el) (n_c_er : c ∉ bk er) (n_c_r : c ∉ bk r) (n_g_ll : g ∉ bk ll) (n_g_el : g ∉ bk el) (n_g_er : g ∉ bk er) (n_g_r : g ∉ bk r) (hdll : 0 ≤ dp ll ∧ dp ll ≤ 900000) (hdel : 0 ≤ dp el ∧ dp el ≤ 900000) (hder : 0 ≤ dp er ∧ dp er ≤ 900000) (hdr : 0 ≤ dp r ∧ dp r ≤ 900000) (hd2 : 0 ≤ d2 ∧ d2 ≤ 900000) (hd3 : 0 ≤ d3 ∧ d3 ≤ 900000) (hdif : dp r - d2 = -2) (hcmp : dp ll < d3) :
    Calls Try.prog 121 #[pt b 0] w fun e w' => e = .returned (pt g 0) ∧ Blk w' b 180 #[.string k, .slice v.a v.n v.c, .int .i64 (1 + mx (dp r) (dp er)), ptT r, ptT er] ∧ Blk w' c 180 #[.string k2, .slice v2.a v2.n v2.c, .int .i64 (1 + mx (dp el) (dp ll)), ptT el, ptT ll] ∧ Blk w' g 180 #[.string k3, .slice v3.a v3.n v3.c, .int .i64 (1 + mx (1 + mx (dp r) (dp er)) (1 + mx (dp el) (dp ll))), pt b 0, pt c 0] ∧ TreeAt w' ll ∧ TreeAt w' el ∧ TreeAt w' er ∧ TreeAt w' r ∧ But (fun q => q = b ∨ q = c ∨ q = g) w w' := by
 have hB0 := But.refl (fun q => q = b ∨ q = c ∨ q = g) w
 have hl_hB := hB.lt
 have hl_hC := hC.lt
 have hl_hE := hE.lt
 have hSb : (fun q => q = b ∨ q = c ∨ q = g) b ∨ w.heap.size ≤ b := .inl (by simp)
 have hSc : (fun q => q = b ∨ q = c ∨ q = g) c ∨ w.heap.size ≤ c := .inl (by simp)
 have hSg : (fun q => q = b ∨ q = c ∨ q = g) g ∨ w.heap.size ≤ g := .inl (by simp)
 refine co_enter (n := 75) Try.func121 rfl rfl rfl [(0, pt b 0)] rfl (fun a h0 => ?_)
 refine co_seq ?_
 refine co_reg ?_
 refine pk0 (v := .pointer none) h0 rfl fun a1 h1 => ?_; clear h0
 refine pl_nil ?_
 refine co_then ?_
 refine co_seq ?_
 refine co_seq ?_
 refine dr_gen (fun x => But (fun q => q = b ∨ q = c ∨ q = g) w x ∧ Blk x b 180 #[.string k, .slice v.a v.n v.c, .int .i64 d, (ptT r), pt c 0]) (by kernel_rfl) (fun w2 hg3 => ?_) (fun w2 hg3 => ?_)
 ·
  have hz4 := hg3.size
  have hB5 := fbU_new hB0 hg3
  have hk6 := hB.kept hg3 (by simp)
  exact ⟨hB5, hk6⟩
 have hz7 := hg3.size
 have hB8 := fbU_new hB0 hg3
 have hk9 := hB.kept hg3 (by simp)
 refine dk0 0 (v := pt b 0) h1 rfl rfl ⟨hB8, hk9⟩ fun a10 h10 => ?_; clear h1
 refine dk0 1 (v := pt b 0) h10 rfl rfl ⟨hB8, hk9⟩ fun a11 h11 => ?_; clear h10
 refine dk0 2 (v := pt b 3) h11 rfl rfl ⟨hB8, hk9⟩ fun a12 h12 => ?_; clear h11
 refine dk 3 (v := (ptT r)) h12 rfl rfl ⟨hB8, hk9⟩ (fun x hx => (rn_load1 rfl rfl Try.isAgg176 (hx.2.cell rfl))) fun a13 h13 => ?_; clear h12
 refine dk0 5 (v := pt b 0) h13 rfl rfl ⟨hB8, hk9⟩ fun a14 h14 => ?_; clear h13
 refine dk0 6 (v := pt b 0) h14 rfl rfl ⟨hB8, hk9⟩ fun a15 h15 => ?_; clear h14
 refine dk0 7 (v := pt b 4) h15 rfl rfl ⟨hB8, hk9⟩ fun a16 h16 => ?_; clear h15
 refine dk 8 (v := pt c 0) h16 rfl rfl ⟨hB8, hk9⟩ (fun x hx => (rn_load1 rfl rfl Try.isAgg176 (hx.2.cell rfl))) fun a17 h17 => ?_; clear h16
 have hT20 := hr.gr hg3 (fun q e => by cases e)
 refine d1 4 h17 rfl rfl (op_call (args := #[(ptT r)]) (R := fun res xw => res = .int .i64 (dp r) ∧ w2 = xw) rfl rfl rfl (by kernel_rfl) (by kernel_rfl) (Try.call135 _ _) (deep_any r w2 hT20) (by rintro e x ⟨rfl, rfl⟩; exact ⟨_, rfl, rfl, rfl⟩)) ?_ ?_; clear h17
 ·
  rintro _ _ ⟨rfl, rfl⟩
  exact ⟨hB8, hk9⟩
 rintro _ _ a18 ⟨rfl, rfl⟩ h18
 have hk23 := hC.kept hg3 (by simp)
 refine d1 9 h18 rfl rfl (op_call (args := #[pt c 0]) (R := fun res xw => res = .int .i64 d2 ∧ w2 = xw) rfl rfl rfl (by kernel_rfl) (by kernel_rfl) (Try.call135 _ _) (deep_blk w2 hk23) (by rintro e x ⟨rfl, rfl⟩; exact ⟨_, rfl, rfl, rfl⟩)) ?_ ?_; clear h18
 ·
  rintro _ _ ⟨rfl, rfl⟩
  exact ⟨hB8, hk9⟩
 rintro _ _ a21 ⟨rfl, rfl⟩ h21
 refine dk 10 (v := .int .i64 ((dp r) - d2)) h21 rfl rfl ⟨hB8, hk9⟩ (fun x hx => (rn_arith rfl rfl rfl rfl rfl rfl (IntWalk.i64_in _ (by omega)))) fun a24 h24 => ?_; clear h21
 refine dr_done (by kernel_rfl) ?_
 refine co_then ?_
 refine wp_block ?_
 refine co_seq ?_
 refine co_reg ?_
 refine pk0 (v := .bool ((dp r) - d2 == 2)) h24 rfl fun a25 h25 => ?_; clear h24
 refine pk0 (v := .bool ((dp r) - d2 == 2)) h25 rfl fun a26 h26 => ?_; clear h25
 refine pl_nil ?_
 refine co_then ?_
 have hc27 : ((dp r) - d2 == 2) = false := by first | (simp; done) | (simp; omega) | exact beq_false_of_ne (by omega) | exact beq_iff_eq.2 (by omega)
 rw [hc27] at h26; clear hc27
 refine co_false h26 rfl ?_
 refine co_seq ?_
 refine co_reg ?_
 refine pk0 (v := .bool ((dp r) - d2 == (-2))) h26 rfl fun a28 h28 => ?_; clear h26
 refine pk0 (v := .bool ((dp r) - d2 == (-2))) h28 rfl fun a29 h29 => ?_; clear h28
 refine pl_nil ?_
 refine co_then ?_
 have hc30 : ((dp r) - d2 == (-2)) = true := by first | (simp; done) | (simp; omega) | exact beq_false_of_ne (by omega) | exact beq_iff_eq.2 (by omega)
 rw [hc30] at h29; clear hc30
 refine co_true h29 rfl ?_
 refine co_seq ?_
 refine co_seq ?_
 refine dr_gen (fun x => But (fun q => q = b ∨ q = c ∨ q = g) w x ∧ Blk x b 180 #[.string k, .slice v.a v.n v.c, .int .i64 d, (ptT r), pt c 0] ∧ Blk x c 180 #[.string k2, .slice v2.a v2.n v2.c, .int .i64 d2, pt g 0, (ptT ll)]) (by kernel_rfl) (fun w31 hg32 => ?_) (fun w31 hg32 => ?_)
 ·
  have hz33 := hg32.size
  have hB34 := fbU_new hB8 hg32
  have hk35 := hk9.kept hg32 (by simp)
  have hk36 := hk23.kept hg32 (by simp)
  exact ⟨hB34, hk35, hk36⟩
 have hz37 := hg32.size
 have hB38 := fbU_new hB8 hg32
 have hk39 := hk9.kept hg32 (by simp)
 have hk40 := hk23.kept hg32 (by simp)
 refine dk0 0 (v := pt b 0) h29 rfl rfl ⟨hB38, hk39, hk40⟩ fun a41 h41 => ?_; clear h29
 refine dk0 1 (v := pt b 0) h41 rfl rfl ⟨hB38, hk39, hk40⟩ fun a42 h42 => ?_; clear h41
 refine dk0 2 (v := pt b 4) h42 rfl rfl ⟨hB38, hk39, hk40⟩ fun a43 h43 => ?_; clear h42
 refine dk 3 (v := pt c 0) h43 rfl rfl ⟨hB38, hk39, hk40⟩ (fun x hx => (rn_load1 rfl rfl Try.isAgg176 (hx.2.1.cell rfl))) fun a44 h44 => ?_; clear h43
 refine dk0 4 (v := pt c 0) h44 rfl rfl ⟨hB38, hk39, hk40⟩ fun a45 h45 => ?_; clear h44
 refine dk0 5 (v := pt c 4) h45 rfl rfl ⟨hB38, hk39, hk40⟩ fun a46 h46 => ?_; clear h45
 refine dk 6 (v := (ptT ll)) h46 rfl rfl ⟨hB38, hk39, hk40⟩ (fun x hx => (rn_load1 rfl rfl Try.isAgg176 (hx.2.2.cell rfl))) fun a47 h47 => ?_; clear h46
 refine dk0 8 (v := pt b 0) h47 rfl rfl ⟨hB38, hk39, hk40⟩ fun a48 h48 => ?_; clear h47
 refine dk0 9 (v := pt b 0) h48 rfl rfl ⟨hB38, hk39, hk40⟩ fun a49 h49 => ?_; clear h48
 refine dk0 10 (v := pt b 4) h49 rfl rfl ⟨hB38, hk39, hk40⟩ fun a50 h50 => ?_; clear h49
 refine dk 11 (v := pt c 0) h50 rfl rfl ⟨hB38, hk39, hk40⟩ (fun x hx => (rn_load1 rfl rfl Try.isAgg176 (hx.2.1.cell rfl))) fun a51 h51 => ?_; clear h50
 refine dk0 12 (v := pt c 0) h51 rfl rfl ⟨hB38, hk39, hk40⟩ fun a52 h52 => ?_; clear h51
 refine dk0 13 (v := pt c 3) h52 rfl rfl ⟨hB38, hk39, hk40⟩ fun a53 h53 => ?_; clear h52
 refine dk 14 (v := pt g 0) h53 rfl rfl ⟨hB38, hk39, hk40⟩ (fun x hx => (rn_load1 rfl rfl Try.isAgg176 (hx.2.2.cell rfl))) fun a54 h54 => ?_; clear h53
 have hT57 := hll.gr hg3 (fun q e => by cases e)
 have hT58 := hT57.gr hg32 (fun q e => by cases e)
 refine d1 7 h54 rfl rfl (op_call (args := #[(ptT ll)]) (R := fun res xw => res = .int .i64 (dp ll) ∧ w31 = xw) rfl rfl rfl (by kernel_rfl) (by kernel_rfl) (Try.call135 _ _) (deep_any ll w31 hT58) (by rintro e x ⟨rfl, rfl⟩; exact ⟨_, rfl, rfl, rfl⟩)) ?_ ?_; clear h54
 ·
  rintro _ _ ⟨rfl, rfl⟩
  exact ⟨hB38, hk39, hk40⟩
 rintro _ _ a55 ⟨rfl, rfl⟩ h55
 have hk61 := hE.kept hg3 (by simp)
 have hk62 := hk61.kept hg32 (by simp)
 refine d1 15 h55 rfl rfl (op_call (args := #[pt g 0]) (R := fun res xw => res = .int .i64 d3 ∧ w31 = xw) rfl rfl rfl (by kernel_rfl) (by kernel_rfl) (Try.call135 _ _) (deep_blk w31 hk62) (by rintro e x ⟨rfl, rfl⟩; exact ⟨_, rfl, rfl, rfl⟩)) ?_ ?_; clear h55
 ·
  rintro _ _ ⟨rfl, rfl⟩
  exact ⟨hB38, hk39, hk40⟩
 rintro _ _ a59 ⟨rfl, rfl⟩ h59
 refine dk0 16 (v := .bool (decide (dp ll < d3))) h59 rfl rfl ⟨hB38, hk39, hk40⟩ fun a63 h63 => ?_; clear h59
 refine dr_done (by kernel_rfl) ?_
 refine co_then ?_
 have hc64 : (decide (dp ll < d3)) = true := decide_eq_true (by omega)
 rw [hc64] at h63; clear hc64
 refine co_true h63 rfl ?_
 refine co_reg ?_
 refine pk0 (v := pt b 0) h63 rfl fun a65 h65 => ?_; clear h63
 refine pk0 (v := pt b 0) h65 rfl fun a66 h66 => ?_; clear h65
 refine pk0 (v := pt b 0) h66 rfl fun a67 h67 => ?_; clear h66
 refine pk0 (v := pt b 4) h67 rfl fun a68 h68 => ?_; clear h67
 refine pk (v := pt c 0) h68 rfl (rn_load1 rfl rfl Try.isAgg176 (hk39.cell rfl)) fun a69 h69 => ?_; clear h68
 have hT72 := hel.gr hg3 (fun q e => by cases e)
 have hT73 := hT72.gr hg32 (fun q e => by cases e)
 have hT74 := her.gr hg3 (fun q e => by cases e)
 have hT75 := hT74.gr hg32 (fun q e => by cases e)
 refine pw h69 rfl (op_call (args := #[pt c 0]) (R := fun res xw => res = pt g 0 ∧ Blk xw c 180 #[.string k2, .slice v2.a v2.n v2.c, .int .i64 (1 + mx (dp el) (dp ll)), (ptT el), (ptT ll)] ∧ Blk xw g 180 #[.string k3, .slice v3.a v3.n v3.c, .int .i64 (1 + mx (dp er) (1 + mx (dp el) (dp ll))), (ptT er), pt c 0] ∧ But (fun q => q = c ∨ q = g) w31 xw) rfl rfl rfl (by kernel_rfl) (by kernel_rfl) (Try.call137 _ _) (upL_any c g er k3 v3 d3 el k2 v2 d2 ll w31 hk40 hk62 hT75 hT73 hT58 hnecg n_c_er n_c_el n_c_ll n_g_er n_g_el n_g_ll (show 0 ≤ (dp er) ∧ (dp er) ≤ 990000 from ⟨by omega, by omega⟩) (show 0 ≤ (dp el) ∧ (dp el) ≤ 990000 from ⟨by omega, by omega⟩) (show 0 ≤ (dp ll) ∧ (dp ll) ≤ 990000 from ⟨by omega, by omega⟩)) (by rintro e x ⟨rfl, h1, h2, h3⟩; exact ⟨_, rfl, rfl, h1, h2, h3⟩)) ?_; clear h69
 rintro _ w71 a70 ⟨rfl, hq76, hq77, hb78⟩ h70
 obtain ⟨d79, hd80⟩ : ∃ z : Int, z = 1 + mx (dp el) (dp ll) := ⟨_, rfl⟩; rw [← hd80] at hq76 hq77
 have hd80b := mx_bd3 (a := (dp el)) (b := (dp ll))
 obtain ⟨d81, hd82⟩ : ∃ z : Int, z = 1 + mx (dp er) d79 := ⟨_, rfl⟩; rw [← hd82] at hq77
 have hd82b := mx_bd3 (a := (dp er)) (b := d79)
 have hB83 := fbU_foot hB38 hb78 (fun i hi hS => by rcases hS with rfl | rfl <;> simp)
 have hz84 := hb78.size
 refine pk0 (v := pt b 0) h70 rfl fun a85 h85 => ?_; clear h70
 refine pk0 (v := pt b 4) h85 rfl fun a86 h86 => ?_; clear h85
 have hk92 := Blk.butS hk39 hb78 (fun hq => by rcases hq with hq | hq; exact absurd hq hnebc; exact absurd hq hnebg)
 refine pwD h86 rfl (op_store1 rfl rfl rfl rfl Try.sizeOf176 hk92 rfl) ?_; clear h86
 rintro _ w88 a87 ⟨hk89, hz90, hg91⟩ h87
 have hk89' : Blk w88 b 180 #[.string k, .slice v.a v.n v.c, .int .i64 d, (ptT r), pt g 0] := hk89; clear hk89
 have hz93 := hg91.size
 refine pl_nil ?_
 refine co_then ?_
 refine co_seq ?_
 refine co_reg ?_
 refine pk0 (v := pt b 0) h87 rfl fun a94 h94 => ?_; clear h87
 have hB97 := fbU_at hB83 hg91 (fun hlt => by rcases hSb with hq | hq; exact hq; omega)
 have hT98 := TreeAt.but hT58 hb78 (fun q hq => fun hq2 => by rcases hq2 with hq2 | hq2; exact (fun e : q = c => n_c_ll (e ▸ hq)) hq2; exact (fun e : q = g => n_g_ll (e ▸ hq)) hq2)
 have hT99 := hT98.gr hg91 (fun q e => by cases e; exact n_b_ll)
 have hT100 := TreeAt.but hT73 hb78 (fun q hq => fun hq2 => by rcases hq2 with hq2 | hq2; exact (fun e : q = c => n_c_el (e ▸ hq)) hq2; exact (fun e : q = g => n_g_el (e ▸ hq)) hq2)
 have hT101 := hT100.gr hg91 (fun q e => by cases e; exact n_b_el)
 have hT102 := TreeAt.but hT75 hb78 (fun q hq => fun hq2 => by rcases hq2 with hq2 | hq2; exact (fun e : q = c => n_c_er (e ▸ hq)) hq2; exact (fun e : q = g => n_g_er (e ▸ hq)) hq2)
 have hT103 := hT102.gr hg91 (fun q e => by cases e; exact n_b_er)
 have hT104 := hT20.gr hg32 (fun q e => by cases e)
 have hT105 := TreeAt.but hT104 hb78 (fun q hq => fun hq2 => by rcases hq2 with hq2 | hq2; exact (fun e : q = c => n_c_r (e ▸ hq)) hq2; exact (fun e : q = g => n_g_r (e ▸ hq)) hq2)
 have hT106 := hT105.gr hg91 (fun q e => by cases e; exact n_b_r)
 have hk107 := hq76.kept hg91 (by simp; omega)
 have hk115 := hq77.kept hg91 (by simp; omega)
 refine pw h94 rfl (op_call (args := #[pt b 0]) (R := fun res xw => res = pt g 0 ∧ Blk xw b 180 #[.string k, .slice v.a v.n v.c, .int .i64 (1 + mx (dp r) (dp er)), (ptT r), (ptT er)] ∧ Blk xw g 180 #[.string k3, .slice v3.a v3.n v3.c, .int .i64 (1 + mx (1 + mx (dp r) (dp er)) d79), pt b 0, pt c 0] ∧ But (fun q => q = b ∨ q = g) w88 xw) rfl rfl rfl (by kernel_rfl) (by kernel_rfl) (Try.call136 _ _) (upR_any b g (Tm.nd c el k2 v2 d79 ll) k3 v3 d81 er k v d r w88 hk89' hk115 ⟨hk107, hT101, hT99⟩ hT103 hT106 hnebg (nin_nd hnebc n_b_el n_b_ll) n_b_er n_b_r (nin_nd (Ne.symm hnecg) n_g_el n_g_ll) n_g_er n_g_r (show 0 ≤ d79 ∧ d79 ≤ 990000 from ⟨by omega, by omega⟩) (show 0 ≤ (dp er) ∧ (dp er) ≤ 990000 from ⟨by omega, by omega⟩) (show 0 ≤ (dp r) ∧ (dp r) ≤ 990000 from ⟨by omega, by omega⟩)) (by rintro e x ⟨rfl, h1, h2, h3⟩; exact ⟨_, rfl, rfl, h1, h2, h3⟩)) ?_; clear h94
 rintro _ w96 a95 ⟨rfl, hq108, hq109, hb110⟩ h95
 obtain ⟨d111, hd112⟩ : ∃ z : Int, z = 1 + mx (dp r) (dp er) := ⟨_, rfl⟩; rw [← hd112] at hq108 hq109
 have hd112b := mx_bd3 (a := (dp r)) (b := (dp er))
 obtain ⟨d113, hd114⟩ : ∃ z : Int, z = 1 + mx d111 d79 := ⟨_, rfl⟩; rw [← hd114] at hq109
 have hd114b := mx_bd3 (a := d111) (b := d79)
 have hB116 := fbU_foot hB97 hb110 (fun i hi hS => by rcases hS with rfl | rfl <;> simp)
 have hz117 := hb110.size
 refine pk0 (v := pt g 0) h95 rfl fun a118 h118 => ?_; clear h95
 refine pl_nil ?_
 refine co_then ?_
 refine wp_ret ?_
 refine co_blockR ?_
 refine co_thenR ?_
 refine co_ret1 h118 rfl rfl ?_
 have hk119 := Blk.butS hk107 hb110 (fun hq => by rcases hq with hq | hq; exact absurd hq (Ne.symm hnebc); exact absurd hq hnecg)
 have hT120 := TreeAt.but hT99 hb110 (fun q hq => fun hq2 => by rcases hq2 with hq2 | hq2; exact (fun e : q = b => n_b_ll (e ▸ hq)) hq2; exact (fun e : q = g => n_g_ll (e ▸ hq)) hq2)
 have hT121 := TreeAt.but hT101 hb110 (fun q hq => fun hq2 => by rcases hq2 with hq2 | hq2; exact (fun e : q = b => n_b_el (e ▸ hq)) hq2; exact (fun e : q = g => n_g_el (e ▸ hq)) hq2)
 have hT122 := TreeAt.but hT103 hb110 (fun q hq => fun hq2 => by rcases hq2 with hq2 | hq2; exact (fun e : q = b => n_b_er (e ▸ hq)) hq2; exact (fun e : q = g => n_g_er (e ▸ hq)) hq2)
 have hT123 := TreeAt.but hT106 hb110 (fun q hq => fun hq2 => by rcases hq2 with hq2 | hq2; exact (fun e : q = b => n_b_r (e ▸ hq)) hq2; exact (fun e : q = g => n_g_r (e ▸ hq)) hq2)
 subst hd112
 subst hd114
 subst hd80
 subst hd82
 exact ⟨rfl, hq108, hk119, hq109, hT120, hT121, hT122, hT123, hB116⟩
set_option maxRecDepth 100000 in
theorem balE_any (b : Nat) (l : Tm) (k : ByteArray) (v : SlT) (d : Int) (r : Tm) (w : World) (hB : Blk w b 180 #[.string k, .slice v.a v.n v.c, .int .i64 d, (ptT l), (ptT r)]) (hl : TreeAt w l) (hr : TreeAt w r) (hbl : b ∉ bk l) (hbr : b ∉ bk r) (hdl : 0 ≤ dp l ∧ dp l ≤ 900000) (hdr : 0 ≤ dp r ∧ dp r ≤ 900000) (h2 : ¬ dp l - dp r = 2) (h3 : ¬ dp l - dp r = -2) :
    Calls Try.prog 121 #[pt b 0] w fun e w' => e = .returned (pt b 0) ∧ Blk w' b 180 (ndV k v (1 + mx (dp l) (dp r)) l r) ∧ TreeAt w' l ∧ TreeAt w' r ∧ But (fun q => q = b) w w' := by
 have hB0 := But.refl (fun q => q = b) w
 have hl_hB := hB.lt
 have hSb : (fun q => q = b) b ∨ w.heap.size ≤ b := .inl rfl
 refine co_enter (n := 75) Try.func121 rfl rfl rfl [(0, pt b 0)] rfl (fun a h0 => ?_)
 refine co_seq ?_
 refine co_reg ?_
 refine pk0 (v := .pointer none) h0 rfl fun a1 h1 => ?_; clear h0
 refine pl_nil ?_
 refine co_then ?_
 refine co_seq ?_
 refine co_seq ?_
 refine dr_gen (fun x => But (fun q => q = b) w x ∧ Blk x b 180 #[.string k, .slice v.a v.n v.c, .int .i64 d, (ptT l), (ptT r)]) (by kernel_rfl) (fun w2 hg3 => ?_) (fun w2 hg3 => ?_)
 ·
  have hz4 := hg3.size
  have hB5 := fbU_new hB0 hg3
  have hk6 := hB.kept hg3 (by simp)
  exact ⟨hB5, hk6⟩
 have hz7 := hg3.size
 have hB8 := fbU_new hB0 hg3
 have hk9 := hB.kept hg3 (by simp)
 refine dk0 0 (v := pt b 0) h1 rfl rfl ⟨hB8, hk9⟩ fun a10 h10 => ?_; clear h1
 refine dk0 1 (v := pt b 0) h10 rfl rfl ⟨hB8, hk9⟩ fun a11 h11 => ?_; clear h10
 refine dk0 2 (v := pt b 3) h11 rfl rfl ⟨hB8, hk9⟩ fun a12 h12 => ?_; clear h11
 refine dk 3 (v := (ptT l)) h12 rfl rfl ⟨hB8, hk9⟩ (fun x hx => (rn_load1 rfl rfl Try.isAgg176 (hx.2.cell rfl))) fun a13 h13 => ?_; clear h12
 refine dk0 5 (v := pt b 0) h13 rfl rfl ⟨hB8, hk9⟩ fun a14 h14 => ?_; clear h13
 refine dk0 6 (v := pt b 0) h14 rfl rfl ⟨hB8, hk9⟩ fun a15 h15 => ?_; clear h14
 refine dk0 7 (v := pt b 4) h15 rfl rfl ⟨hB8, hk9⟩ fun a16 h16 => ?_; clear h15
 refine dk 8 (v := (ptT r)) h16 rfl rfl ⟨hB8, hk9⟩ (fun x hx => (rn_load1 rfl rfl Try.isAgg176 (hx.2.cell rfl))) fun a17 h17 => ?_; clear h16
 have hT20 := hl.gr hg3 (fun q e => by cases e)
 refine d1 4 h17 rfl rfl (op_call (args := #[(ptT l)]) (R := fun res xw => res = .int .i64 (dp l) ∧ w2 = xw) rfl rfl rfl (by kernel_rfl) (by kernel_rfl) (Try.call135 _ _) (deep_any l w2 hT20) (by rintro e x ⟨rfl, rfl⟩; exact ⟨_, rfl, rfl, rfl⟩)) ?_ ?_; clear h17
 ·
  rintro _ _ ⟨rfl, rfl⟩
  exact ⟨hB8, hk9⟩
 rintro _ _ a18 ⟨rfl, rfl⟩ h18
 have hT23 := hr.gr hg3 (fun q e => by cases e)
 refine d1 9 h18 rfl rfl (op_call (args := #[(ptT r)]) (R := fun res xw => res = .int .i64 (dp r) ∧ w2 = xw) rfl rfl rfl (by kernel_rfl) (by kernel_rfl) (Try.call135 _ _) (deep_any r w2 hT23) (by rintro e x ⟨rfl, rfl⟩; exact ⟨_, rfl, rfl, rfl⟩)) ?_ ?_; clear h18
 ·
  rintro _ _ ⟨rfl, rfl⟩
  exact ⟨hB8, hk9⟩
 rintro _ _ a21 ⟨rfl, rfl⟩ h21
 refine dk 10 (v := .int .i64 ((dp l) - (dp r))) h21 rfl rfl ⟨hB8, hk9⟩ (fun x hx => (rn_arith rfl rfl rfl rfl rfl rfl (IntWalk.i64_in _ (by omega)))) fun a24 h24 => ?_; clear h21
 refine dr_done (by kernel_rfl) ?_
 refine co_then ?_
 refine wp_block ?_
 refine co_seq ?_
 refine co_reg ?_
 refine pk0 (v := .bool ((dp l) - (dp r) == 2)) h24 rfl fun a25 h25 => ?_; clear h24
 refine pk0 (v := .bool ((dp l) - (dp r) == 2)) h25 rfl fun a26 h26 => ?_; clear h25
 refine pl_nil ?_
 refine co_then ?_
 have hc27 : ((dp l) - (dp r) == 2) = false := by first | (simp; done) | (simp; omega) | exact beq_false_of_ne (by omega) | exact beq_iff_eq.2 (by omega)
 rw [hc27] at h26; clear hc27
 refine co_false h26 rfl ?_
 refine co_seq ?_
 refine co_reg ?_
 refine pk0 (v := .bool ((dp l) - (dp r) == (-2))) h26 rfl fun a28 h28 => ?_; clear h26
 refine pk0 (v := .bool ((dp l) - (dp r) == (-2))) h28 rfl fun a29 h29 => ?_; clear h28
 refine pl_nil ?_
 refine co_then ?_
 have hc30 : ((dp l) - (dp r) == (-2)) = false := by first | (simp; done) | (simp; omega) | exact beq_false_of_ne (by omega) | exact beq_iff_eq.2 (by omega)
 rw [hc30] at h29; clear hc30
 refine co_false h29 rfl ?_
 refine wp_skip ?_
 refine co_blockN ?_
 refine co_then ?_
 refine co_seq ?_
 refine co_reg ?_
 refine pk0 (v := pt b 0) h29 rfl fun a31 h31 => ?_; clear h29
 refine pw h31 rfl (op_call (args := #[pt b 0]) (R := fun res xw => res = .tuple #[] ∧ Blk xw b 180 #[.string k, .slice v.a v.n v.c, .int .i64 (1 + mx (dp l) (dp r)), (ptT l), (ptT r)] ∧ But (fun q => q = b) w2 xw) rfl rfl rfl (by kernel_rfl) (by kernel_rfl) (Try.call138 _ _) (measure_any b l k v d r w2 hk9 hT20 hT23 hbl hbr (show 0 ≤ (dp l) ∧ (dp l) ≤ 1000000 from ⟨by omega, by omega⟩) (show 0 ≤ (dp r) ∧ (dp r) ≤ 1000000 from ⟨by omega, by omega⟩)) (by rintro e x ⟨rfl, h1, h2⟩; exact ⟨_, rfl, rfl, h1, h2⟩)) ?_; clear h31
 rintro _ w33 a32 ⟨rfl, hq34, hb35⟩ h32
 obtain ⟨d36, hd37⟩ : ∃ z : Int, z = 1 + mx (dp l) (dp r) := ⟨_, rfl⟩; rw [← hd37] at hq34
 have hd37b := mx_bd3 (a := (dp l)) (b := (dp r))
 have hB38 := fbU_foot hB8 hb35 (fun i hi hS => by rcases hS with rfl; rfl)
 have hz39 := hb35.size
 refine pl_nil ?_
 refine co_then ?_
 refine co_seq ?_
 refine co_reg ?_
 refine pk0 (v := pt b 0) h32 rfl fun a40 h40 => ?_; clear h32
 refine pk0 (v := pt b 0) h40 rfl fun a41 h41 => ?_; clear h40
 refine pl_nil ?_
 refine co_then ?_
 refine wp_ret ?_
 refine co_ret1 h41 rfl rfl ?_
 have hT42 := TreeAt.but hT20 hb35 (fun q hq => (fun e : q = b => hbl (e ▸ hq)))
 have hT43 := TreeAt.but hT23 hb35 (fun q hq => (fun e : q = b => hbr (e ▸ hq)))
 subst hd37
 exact ⟨rfl, hq34, hT42, hT43, hB38⟩
end Go.Proofs.Ytbjbcbbhmbpndaa
