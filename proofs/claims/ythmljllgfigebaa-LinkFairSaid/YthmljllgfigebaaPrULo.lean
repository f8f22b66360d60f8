/- catenalaw22: a step; LinkOnce. Conditions: none. -/
import Derived.Test.YthmljllgfigebaaLo4
import Derived.Test.YthmljllgfigebaaLo5
import Derived.Test.YthmljllgfigebaaLo6
import Derived.Test.YthmljllgfigebaaPrRLo
import Derived.Test.YthmljllgfigebaaOpen
namespace Go.Proofs.Ythmljllgfigebaa
open Go.RowKit Go.PlainAid
set_option linter.unusedVariables false
set_option linter.unusedSimpArgs false


theorem step_any (S : Nat → Prop) (b : Nat) (P : PrT) (K : Int) (n : Int) (g : Bool) (w : World) (hP : PrO S w b P) (hst : StepH P) (hn : 0 ≤ n ∧ n ≤ 255) :
    Calls Try.prog 49 #[pt b 0, .agg #[.int .i64 K, .int .u8 n, .bool g]] w fun e w' => ∃ (P' : PrT) (S' : Nat → Prop), e = .returned (.tuple #[]) ∧ PrO S' w' b P' ∧ StepR K P P' ∧ Grew S S' w w' := by
  have h2 : n.tmod 2 = 0 ∨ n.tmod 2 = 1 := by have := Int.tmod_nonneg 2 hn.1; have := Int.tmod_lt_of_pos n (show (0 : Int) < 2 by omega); omega
  have fin : ∀ {e : Ending} {x : World}, (∃ (P' : PrT) (S' : Nat → Prop), e = .returned (.tuple #[]) ∧ StepR K P P' ∧ PrO S' x b P' ∧ Grew S S' w x ∧ But (S) w x) → ∃ (P' : PrT) (S' : Nat → Prop), e = .returned (.tuple #[]) ∧ PrO S' x b P' ∧ StepR K P P' ∧ Grew S S' w x := fun ⟨P', S', h1, h2, h3, h4, _⟩ => ⟨P', S', h1, h3, h2, h4⟩
  by_cases h01 : K = 0 ∨ K = 1
  · rcases h2 with h2 | h2
    · exact (step_send0 S b P K n g w hP hst hn h01 h2).mono fun e x h => fin h
    · exact (step_send1 S b P K n g w hP hst hn h01 h2).mono fun e x h => fin h
  · by_cases hk2 : K = 2
    · rcases h2 with h2 | h2
      · exact (step_out0 S b P K n g w hP hst hn hk2 h2).mono fun e x h => fin h
      · exact (step_out1 S b P K n g w hP hst hn hk2 h2).mono fun e x h => fin h
    · by_cases h6 : 6 < K ∨ K < 0
      · rcases h2 with h2 | h2
        · exact (step_anew0 S b P K n g w hP hst hn h6 h2).mono fun e x h => fin h
        · exact (step_anew1 S b P K n g w hP hst hn h6 h2).mono fun e x h => fin h
      · by_cases hl : P.W.length = 0
        · exact (step_none S b P K n g w hP hst hn ⟨by omega, hl⟩).mono fun e x h => fin h
        · by_cases h5 : K = 5
          · exact (step_gone S b P K n g w hP hst hn ⟨h5, by omega⟩).mono fun e x h => fin h
          · by_cases h66 : K = 6
            · exact (step_dup S b P K n g w hP hst hn ⟨h66, by omega⟩).mono fun e x h => fin h
            · exact (step_come S b P K n g w hP hst hn ⟨by omega, by omega⟩).mono fun e x h => fin h
theorem PrO.okc {S : Nat → Prop} {w : World} {b : Nat} {P : PrT} (h : PrO S w b P) : w.cell? ⟨b, 10, none⟩ = some (.bool true) := by
  obtain ⟨_, _, _, _, _, _, h⟩ := h; exact h.blk.cell (k := 10) rfl
theorem wf_u8p {b : Int} (h : (Lit.int .u8 b).wf = true) : 0 ≤ b ∧ b ≤ 255 := by
  unfold Lit.wf at h
  rw [Bool.and_eq_true, decide_eq_true_eq, decide_eq_true_eq] at h
  have e1 : IntKind.min .u8 = 0 := by decide
  have e2 : IntKind.max .u8 = 255 := by decide
  rw [e1, e2] at h
  exact h
structure StpT where
  k : Int
  n : Int
  g : Bool
instance : Inhabited StpT := ⟨⟨0, 0, false⟩⟩
def stpE (a : StpT) : List Value := [.int .i64 a.k, .int .u8 a.n, .bool a.g]
theorem stpE_len (a : StpT) : (stpE a).length = 3 := rfl
abbrev StpOk (a : StpT) : Prop := 0 ≤ a.n ∧ a.n ≤ 255
section
variable {H : Type} {enc : TypeId × Value → H} {w : World} {base : Nat} {spare : Nat → Bool} {held : Bool}
set_option maxRecDepth 10000 in
theorem elem_stp (n : Nat) (cs : List Value) (x : DataW H × List MemPlace) (h : DataW.trod enc Try.prog w base spare held n 90 cs = some x) : ∃ a, cs = stpE a ∧ StpOk a := by
  obtain ⟨xs, m, _, _, hl, hxl, hf⟩ := DataW.trod_struct Try.underlying90 h
  have hl3 : cs.length = 3 := hl
  have hx3 : xs.length = 3 := hxl
  clear hl hxl
  match cs, hl3, xs, hx3 with
  | [c0, c1, c2], _, [y0, y1, y2], _ =>
    have h0' : DataW.trod enc Try.prog w base spare held m 3 [c0] = some y0 := hf 0 _ rfl
    have h1' : DataW.trod enc Try.prog w base spare held m 5 [c1] = some y1 := hf 1 _ rfl
    have h2' : DataW.trod enc Try.prog w base spare held m 4 [c2] = some y2 := hf 2 _ rfl
    obtain ⟨a, e0, _, w0⟩ := DataW.trod_int Try.underlying3 h0'
    obtain ⟨b, e1, _, w1⟩ := DataW.trod_int Try.underlying5 h1'
    obtain ⟨d, e2, _⟩ := DataW.trod_bool Try.underlying4 h2'
    simp only [List.cons.injEq, and_true] at e0 e1 e2
    subst e0 e1 e2
    exact ⟨⟨a, b, d⟩, rfl, wf_u8p w1⟩
theorem open_stps {fuel : Nat} {cs : List Value} {x : DataW H × List MemPlace} (h : DataW.trod enc Try.prog w base spare held fuel 85 cs = some x) :
    ∃ (l : List StpT) (v : Value), cs = [v] ∧ SliceOf stpE 3 w v l ∧ ∀ p ∈ l, StpOk p :=
  open_rows stpE 3 StpOk Try.underlying85 (by kernel_rfl) (by omega) elem_stp h
end

set_option maxRecDepth 100000 in
set_option maxHeartbeats 3200000 in
theorem linkOnce_law (v : Value) (l : List StpT) (w : World) (hs : SliceOf stpE 3 w v l) (hok : ∀ z ∈ l, StpOk z) :
    Calls Try.prog 9 #[v] w fun e w' => e = .returned (.bool true) ∧ Below w.heap.size w w' := by
 have hB0 := Below.refl w.heap.size w
 have hl_hs := sl_len hs
 refine co_enter (n := 30) Try.func9 rfl rfl rfl [(0, v)] rfl (fun a h0 => ?_)
 refine co_seq ?_
 refine co_reg ?_
 refine pk0 (v := .bool false) h0 rfl fun a1 h1 => ?_; clear h0
 refine pl_nil ?_
 refine co_then ?_
 refine co_seq ?_
 refine co_reg ?_
 refine pw h1 rfl (op_call (args := #[]) (R := fun res xw => ∃ N S, res = pt N 0 ∧ PrO S xw N pr0 ∧ (∀ q, S q → w.heap.size ≤ q) ∧ Below w.heap.size w xw) rfl rfl rfl (by kernel_rfl) (by kernel_rfl) (Try.call48 _ _) (both_any w) (by rintro e x ⟨N, S, rfl, h⟩; exact ⟨_, rfl, _, S, rfl, h⟩)) ?_; clear h1
 rintro _ w3 a2 ⟨N4, S5, rfl, hO6, hlo7, hb8⟩ h2
 have hz9 := hb8.size
 have hlo10 : ∀ q, S5 q → w.heap.size ≤ q := fun q hq => by have := hlo7 q hq; omega
 refine pk0 (v := pt N4 0) h2 rfl fun a11 h11 => ?_; clear h2
 refine pl_nil ?_
 refine co_then ?_
 refine co_seq ?_
 refine co_seq ?_
 refine co_reg ?_
 refine pk0 (v := pt N4 0) h11 rfl fun a12 h12 => ?_; clear h11
 refine pk0 (v := .bool false) h12 rfl fun a13 h13 => ?_; clear h12
 refine pl_nil ?_
 refine co_then ?_
 refine co_false h13 rfl ?_
 refine wp_skip ?_
 refine co_then ?_
 refine co_seq ?_
 refine co_seq ?_
 refine co_reg ?_
 refine pk0 (v := .int .i64 0) h13 rfl fun a14 h14 => ?_; clear h13
 refine pl_nil ?_
 refine co_then ?_
 refine wp_block ?_
 have hll := hlo10
 have hpi : PInv pr0 0 := pInv0
 have h15 : Slots 30 [(0, v), (3, pt N4 0), (4, .int .i64 0)] _ := h14.sub ⟨rfl, rfl, rfl, trivial⟩; clear h14
 refine co_loop (fun mm a x => ∃ (i : Nat) (SP : Nat → Prop) (Pk : PrT), Slots 30 [(0, v), (3, pt N4 0), (4, .int .i64 ((i : Nat) : Int))] a ∧ mm = l.length - i ∧ (i ≤ l.length) ∧ (i ≤ 200) ∧ (∀ q, SP q → w.heap.size ≤ q) ∧ (PInv Pk ((i : Nat) : Int)) ∧ PrO SP x N4 Pk ∧ Below w.heap.size w x) (l.length - 0) ?_ ?_
 have hB16 := hb_call hB0 hb8
 · exact ⟨0, S5, pr0, h15.sub ⟨rfl, rfl, (slot_eq rfl (congrArg (Value.int .i64) (by first | rfl | omega))), trivial⟩, rfl, by omega, by omega, by exact hll, by exact hpi, hO6, hB16⟩
 · rintro k17 a18 w19 ⟨i, SP, Pk, h18, rfl, hi20, hi21, hi22, hi23, hf24, hB25⟩
   have hz26 := hB25.size
   have hlo27 : ∀ q, SP q → w.heap.size ≤ q := by assumption
   have hInv : PInv Pk ((i : Nat) : Int) := by assumption
   refine co_seq ?_
   refine co_seq ?_
   refine co_reg ?_
   refine pk0 (v := .int .i64 ((i : Nat) : Int)) h18 rfl fun a28 h28 => ?_; clear h18
   refine pk0 (v := v) h28 rfl fun a29 h29 => ?_; clear h28
   refine pk (v := .int .i64 ((l.length : Nat) : Int)) h29 rfl (rn_len rfl rfl Try.underlying85 (hs.below hB25)) fun a30 h30 => ?_; clear h29
   refine pk0 (v := .bool (decide (((i : Nat) : Int) < ((l.length : Nat) : Int)))) h30 rfl fun a31 h31 => ?_; clear h30
   refine pk0 (v := .bool (decide (((i : Nat) : Int) < ((l.length : Nat) : Int)))) h31 rfl fun a32 h32 => ?_; clear h31
   cases hc33 : (decide (((i : Nat) : Int) < ((l.length : Nat) : Int)))
   ·
    rw [hc33] at h32
    have hp34 : ¬ (((i : Nat) : Int) < ((l.length : Nat) : Int)) := of_decide_eq_false hc33
    clear hc33
    refine psk h32 rfl fun a35 h35 => ?_; clear h32
    refine psk h35 rfl fun a36 h36 => ?_; clear h35
    refine pk0 (v := .bool false) h36 rfl fun a37 h37 => ?_; clear h36
    refine pl_nil ?_
    refine co_then ?_
    refine co_false h37 rfl ?_
    refine wp_exit ?_
    refine co_thenX ?_
    refine co_thenX ?_
    refine co_blockX ?_
    refine co_then ?_
    refine co_seq ?_
    refine co_reg ?_
    refine pw h37 rfl (op_call (args := #[]) (R := fun res xw => res = .bool true ∧ Below w19.heap.size w19 xw) rfl rfl rfl (by kernel_rfl) (by kernel_rfl) (Try.call43 _ _) (awake22 w19) (by rintro e x ⟨rfl, h⟩; exact ⟨_, rfl, rfl, h⟩)) ?_; clear h37
    rintro _ w39 a38 ⟨rfl, hb40⟩ h38
    have hz41 := hb40.size
    have ho42 := PrO.ofS hf24
    refine pk0 (v := .bool true) h38 rfl fun a43 h43 => ?_; clear h38
    refine pl_nil ?_
    refine co_then ?_
    refine wp_ret ?_
    refine co_ret1 h43 rfl rfl ?_
    have hB44 := hb_call hB25 hb40
    exact ⟨rfl, hB44⟩
   ·
    rw [hc33] at h32
    have hp45 : ((i : Nat) : Int) < ((l.length : Nat) : Int) := of_decide_eq_true hc33
    clear hc33
    refine pk0 (v := .int .i64 ((i : Nat) : Int)) h32 rfl fun a46 h46 => ?_; clear h32
    refine pk0 (v := .bool (decide (((i : Nat) : Int) < 200))) h46 rfl fun a47 h47 => ?_; clear h46
    refine pk0 (v := .bool (decide (((i : Nat) : Int) < 200))) h47 rfl fun a48 h48 => ?_; clear h47
    refine pl_nil ?_
    refine co_then ?_
    cases hc49 : (decide (((i : Nat) : Int) < 200))
    ·
     rw [hc49] at h48
     have hp50 : ¬ (((i : Nat) : Int) < 200) := of_decide_eq_false hc49
     clear hc49
     refine co_false h48 rfl ?_
     refine wp_exit ?_
     refine co_thenX ?_
     refine co_thenX ?_
     refine co_blockX ?_
     refine co_then ?_
     refine co_seq ?_
     refine co_reg ?_
     refine pw h48 rfl (op_call (args := #[]) (R := fun res xw => res = .bool true ∧ Below w19.heap.size w19 xw) rfl rfl rfl (by kernel_rfl) (by kernel_rfl) (Try.call43 _ _) (awake22 w19) (by rintro e x ⟨rfl, h⟩; exact ⟨_, rfl, rfl, h⟩)) ?_; clear h48
     rintro _ w52 a51 ⟨rfl, hb53⟩ h51
     have hz54 := hb53.size
     have ho55 := PrO.ofS hf24
     refine pk0 (v := .bool true) h51 rfl fun a56 h56 => ?_; clear h51
     refine pl_nil ?_
     refine co_then ?_
     refine wp_ret ?_
     refine co_ret1 h56 rfl rfl ?_
     have hB57 := hb_call hB25 hb53
     exact ⟨rfl, hB57⟩
    ·
     rw [hc49] at h48
     have hp58 : ((i : Nat) : Int) < 200 := of_decide_eq_true hc49
     clear hc49
     refine co_true h48 rfl ?_
     refine wp_skip ?_
     refine co_then ?_
     refine co_seq ?_
     refine wp_block ?_
     refine co_seq ?_
     refine co_reg ?_
     refine pk0 (v := pt N4 0) h48 rfl fun a59 h59 => ?_; clear h48
     refine pk0 (v := v) h59 rfl fun a60 h60 => ?_; clear h59
     refine pk0 (v := .int .i64 ((i : Nat) : Int)) h60 rfl fun a61 h61 => ?_; clear h60
     obtain ⟨y62, hy62⟩ : ∃ z, l[i]? = some z := ⟨_, List.getElem?_eq_getElem (by first | omega | (simp; done) | (simp; omega))⟩
     have oky62 := hok _ (List.mem_of_getElem? hy62)
     refine pk (v := pt (blkOf v) (offOf v + i * 3)) h61 rfl (rn_index rfl rfl rfl Try.underlying85 Try.sizeOf90 (hs.below hB25) (by omega) (by first | omega | (simp; done) | (simp; omega))) fun a63 h63 => ?_; clear h61
     refine pk (v := .agg #[.int .i64 y62.k, .int .u8 y62.n, .bool y62.g]) h63 rfl (rn_loadN rfl rfl Try.underlying90 rfl (by kernel_rfl) (sl_at (hs.below hB25) hy62)) fun a64 h64 => ?_; clear h63
     have ho67 := PrO.ofS hf24
     refine pw h64 rfl (op_call (args := #[pt N4 0, .agg #[.int .i64 y62.k, .int .u8 y62.n, .bool y62.g]]) (R := fun res xw => ∃ P' : PrT, ∃ S' : Nat → Prop, res = .tuple #[] ∧ PrO S' xw N4 P' ∧ (StepR y62.k Pk P') ∧ Grew SP S' w19 xw) rfl rfl rfl (by kernel_rfl) (by kernel_rfl) (Try.call49 _ _) (step_any SP N4 Pk y62.k y62.n y62.g w19 hf24 (PInv.stepH hInv (by omega)) (by assumption)) (by rintro e x ⟨P', S', h0, h⟩; exact ⟨_, h0, P', S', rfl, h⟩)) ?_; clear h64
     rintro _ w66 a65 ⟨P'68, S69, rfl, hO70, hq72, hx71⟩ h65
     have hlo74 : ∀ q, S69 q → w.heap.size ≤ q := hx71.lo hlo27 (by omega)
     have hB73 := hbL hB25 hlo27 hx71.but
     have hz75 := hB73.size
     have hz76 := hx71.but.size
     refine pl_nil ?_
     refine co_then ?_
     refine co_seq ?_
     refine co_reg ?_
     refine pk0 (v := pt N4 0) h65 rfl fun a77 h77 => ?_; clear h65
     refine pk0 (v := pt N4 0) h77 rfl fun a78 h78 => ?_; clear h77
     refine pk0 (v := pt N4 10) h78 rfl fun a79 h79 => ?_; clear h78
     refine pk (v := .bool true) h79 rfl (rn_load1 rfl rfl Try.isAgg4 (PrO.okc hO70)) fun a80 h80 => ?_; clear h79
     refine pk0 (v := .bool false) h80 rfl fun a81 h81 => ?_; clear h80
     refine pl_nil ?_
     refine co_then ?_
     refine co_false h81 rfl ?_
     refine wp_skip ?_
     refine co_blockN ?_
     refine co_then ?_
     refine co_reg ?_
     refine pk0 (v := .int .i64 ((i : Nat) : Int)) h81 rfl fun a82 h82 => ?_; clear h81
     refine pk (v := .int .i64 ((i + 1 : Nat) : Int)) h82 rfl (rn_arith' rfl rfl rfl rfl rfl rfl (IntWalk.i64_in _ (by omega)) (by omega)) fun a83 h83 => ?_; clear h82
     refine pk0 (v := .int .i64 ((i + 1 : Nat) : Int)) h83 rfl fun a84 h84 => ?_; clear h83
     refine pl_nil ?_
     refine co_then ?_
     refine ⟨(l.length - (i + 1)), by omega, ?_⟩
     have hll := hlo74
     have hpi : PInv P'68 ((i : Int) + 1) := PInv.step hInv (by omega) (by omega) hq72
     exact ⟨i + 1, S69, P'68, h84.sub ⟨rfl, rfl, rfl, trivial⟩, rfl, by omega, by omega, by exact hll, by exact hpi, hO70, hB73⟩
end Go.Proofs.Ythmljllgfigebaa
