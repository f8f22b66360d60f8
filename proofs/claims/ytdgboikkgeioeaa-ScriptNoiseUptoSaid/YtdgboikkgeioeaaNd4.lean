/- Put together: ScrTNb, ScrUNb, ScrMNb, BulkNb, PartsNb, ScrWNb, ScrNNb, ScrONb, StrsNb, ScrQNb, ScrRNb. Conditions: as each says. -/
import Derived.Test.YtdgboikkgeioeaaNd2
import Derived.Test.YtdgboikkgeioeaaNd3
import Derived.Test.YtdgboikkgeioeaaRows
import Derived.Test.YtdgboikkgeioeaaNd1
import Derived.ProofKit
import Derived.Deep.Slices
import Derived.Deep.Fields
import Derived.SliceStrings
import Derived.SizedLaws
/- How many parts steps have. Conditions: texts of at most 1048576 bytes. -/
namespace Go.Proofs.Ytdgboikkgeioeaa
open Go.RowKit Go.PlainAid
set_option linter.unusedVariables false
set_option linter.unusedSimpArgs false


def mxI (a b : Int) : Int := if a < b then b else a
theorem mxI_p (a b : Int) : mxI a b ≥ a ∧ mxI a b ≥ b ∧ (mxI a b = a ∨ mxI a b = b) := by unfold mxI; split <;> omega
def ptE1 (n : Int) (e : EvX) : Int := mxI (mxI (mxI n ((e.d.ops.length : Nat) : Int)) (((e.d.ky.size : Nat) : Int) - 80)) (((e.d.tt.size : Nat) : Int) - 80)
def ptsE (l : List EvX) : Int := l.foldl ptE1 0
theorem ptsE_at {l : List EvX} {i : Nat} {y : EvX} (h : l[i]? = some y) : ptsE (l.take (i + 1)) = mxI (mxI (mxI (ptsE (l.take i)) ((y.d.ops.length : Nat) : Int)) (((y.d.ky.size : Nat) : Int) - 80)) (((y.d.tt.size : Nat) : Int) - 80) := by
  rw [List.take_add_one, h]; unfold ptsE; rw [Option.toList_some, List.foldl_append]; rfl
theorem ptE1_p (n : Int) (e : EvX) : ptE1 n e ≥ n ∧ ptE1 n e ≥ (e.d.ops.length : Int) ∧ ptE1 n e ≥ (e.d.ky.size : Int) - 80 ∧ ptE1 n e ≥ (e.d.tt.size : Int) - 80 ∧ (ptE1 n e = n ∨ ptE1 n e = (e.d.ops.length : Int) ∨ ptE1 n e = (e.d.ky.size : Int) - 80 ∨ ptE1 n e = (e.d.tt.size : Int) - 80) := by
  unfold ptE1
  have h1 := mxI_p n ((e.d.ops.length : Nat) : Int); have h2 := mxI_p (mxI n ((e.d.ops.length : Nat) : Int)) (((e.d.ky.size : Nat) : Int) - 80); have h3 := mxI_p (mxI (mxI n ((e.d.ops.length : Nat) : Int)) (((e.d.ky.size : Nat) : Int) - 80)) (((e.d.tt.size : Nat) : Int) - 80)
  omega
theorem ptsE_le (w : World) {l : List EvX} (h : ∀ z ∈ l, EvOk w z) : ∀ i : Nat, 0 ≤ ptsE (l.take i) ∧ ptsE (l.take i) ≤ 9223372036854775807
  | 0 => by simp [ptsE]
  | i + 1 => by
    have ih := ptsE_le w h i
    cases hy : l[i]? with
    | none => rw [List.take_add_one, hy]; simpa using ih
    | some y =>
      have hm := h y (List.mem_of_getElem? hy)
      have h1 := sl_len hm.sl; have h2 := hm.s.ky; have h3 := hm.s.tt
      have hp := ptE1_p (ptsE (l.take i)) y
      rw [show ptsE (l.take (i + 1)) = ptE1 (ptsE (l.take i)) y from ptsE_at hy]; omega
theorem ptsE_end {l : List EvX} {i : Nat} (h1 : i ≤ 400) (h2 : l.length ≤ i ∨ 400 ≤ i) : ptsE (l.take i) = ptsE (l.take 400) := by
  rcases h2 with h2 | h2
  · rw [List.take_of_length_le h2, List.take_of_length_le (by omega)]
  · rw [show i = 400 by omega]
theorem ptsE_mem : ∀ (l : List EvX) (n k : Int), l.foldl ptE1 n ≤ k → n ≤ k ∧ ∀ z ∈ l, (z.d.ops.length : Int) ≤ k ∧ (z.d.ky.size : Int) - 80 ≤ k ∧ (z.d.tt.size : Int) - 80 ≤ k
  | [], n, k, h => ⟨h, by simp⟩
  | e :: r, n, k, h => by
    obtain ⟨h1, h2⟩ := ptsE_mem r (ptE1 n e) k h
    have hp := ptE1_p n e
    refine ⟨by omega, fun z hz => ?_⟩
    rcases List.mem_cons.1 hz with rfl | hz
    · omega
    · exact h2 z hz

set_option maxRecDepth 100000 in
theorem parts36_any (v : Value) (l : List EvX) (w : World) (hs : SliceOf evE 10 w v l) (hok : ∀ z ∈ l, EvOk w z) :
    Calls Try.prog 16 #[v] w fun e w' => e = .returned (.int .i64 (ptsE (l.take 400))) ∧ Below w.heap.size w w' := by
 have hB0 := Below.refl w.heap.size w
 have hl_hs := sl_len hs
 refine co_enter (n := 41) Try.func16 rfl rfl rfl [(0, v)] rfl (fun a h0 => ?_)
 refine co_seq ?_
 refine co_reg ?_
 refine pk0 (v := .int .i64 0) h0 rfl fun a1 h1 => ?_; clear h0
 refine pl_nil ?_
 refine co_then ?_
 refine co_seq ?_
 refine co_reg ?_
 refine pk0 (v := .int .i64 0) h1 rfl fun a2 h2 => ?_; clear h1
 refine pl_nil ?_
 refine co_then ?_
 refine co_seq ?_
 refine co_seq ?_
 refine co_reg ?_
 refine pk0 (v := .int .i64 0) h2 rfl fun a3 h3 => ?_; clear h2
 refine pl_nil ?_
 refine co_then ?_
 refine wp_block ?_
 have h4 : Slots 41 [(0, v), (3, .int .i64 0), (4, .int .i64 0)] _ := h3.sub ⟨rfl, rfl, rfl, trivial⟩; clear h3
 refine co_loop (fun mm a x => ∃ (i : Nat), Slots 41 [(0, v), (3, .int .i64 (ptsE (l.take i))), (4, .int .i64 ((i : Nat) : Int))] a ∧ mm = l.length - i ∧ (i ≤ l.length) ∧ (i ≤ 400) ∧ Below w.heap.size w x) (l.length - 0) ?_ ?_
 · exact ⟨0, h4.sub ⟨rfl, (slot_eq rfl (congrArg (Value.int .i64) (by first | rfl | exact (ptsE_at (by assumption)).symm))), (slot_eq rfl (congrArg (Value.int .i64) (by first | rfl | omega))), trivial⟩, rfl, by omega, by omega, hB0⟩
 · rintro k5 a6 w7 ⟨i, h6, rfl, hi8, hi9, hB10⟩
   have hz11 := hB10.size
   have hpl := ptsE_le w hok i
   refine co_seq ?_
   refine co_seq ?_
   refine co_reg ?_
   refine pk0 (v := .int .i64 ((i : Nat) : Int)) h6 rfl fun a12 h12 => ?_; clear h6
   refine pk0 (v := v) h12 rfl fun a13 h13 => ?_; clear h12
   refine pk (v := .int .i64 ((l.length : Nat) : Int)) h13 rfl (rn_len rfl rfl Try.underlying50 (hs.below hB10)) fun a14 h14 => ?_; clear h13
   refine pk0 (v := .bool (decide (((i : Nat) : Int) < ((l.length : Nat) : Int)))) h14 rfl fun a15 h15 => ?_; clear h14
   refine pk0 (v := .bool (decide (((i : Nat) : Int) < ((l.length : Nat) : Int)))) h15 rfl fun a16 h16 => ?_; clear h15
   cases hc17 : (decide (((i : Nat) : Int) < ((l.length : Nat) : Int)))
   ·
    rw [hc17] at h16
    have hp18 : ¬ (((i : Nat) : Int) < ((l.length : Nat) : Int)) := of_decide_eq_false hc17
    clear hc17
    refine psk h16 rfl fun a19 h19 => ?_; clear h16
    refine psk h19 rfl fun a20 h20 => ?_; clear h19
    refine pk0 (v := .bool false) h20 rfl fun a21 h21 => ?_; clear h20
    refine pl_nil ?_
    refine co_then ?_
    refine co_false h21 rfl ?_
    refine wp_exit ?_
    refine co_thenX ?_
    refine co_thenX ?_
    refine co_blockX ?_
    refine co_then ?_
    refine co_seq ?_
    refine co_reg ?_
    refine pk0 (v := .int .i64 (ptsE (l.take i))) h21 rfl fun a22 h22 => ?_; clear h21
    refine pk0 (v := .int .i64 (ptsE (l.take i))) h22 rfl fun a23 h23 => ?_; clear h22
    refine pl_nil ?_
    refine co_then ?_
    refine wp_ret ?_
    refine co_ret1 h23 rfl rfl ?_
    exact ⟨by rw [ptsE_end (by omega) (by omega)], hB10⟩
   ·
    rw [hc17] at h16
    have hp24 : ((i : Nat) : Int) < ((l.length : Nat) : Int) := of_decide_eq_true hc17
    clear hc17
    refine pk0 (v := .int .i64 ((i : Nat) : Int)) h16 rfl fun a25 h25 => ?_; clear h16
    refine pk0 (v := .bool (decide (((i : Nat) : Int) < 400))) h25 rfl fun a26 h26 => ?_; clear h25
    refine pk0 (v := .bool (decide (((i : Nat) : Int) < 400))) h26 rfl fun a27 h27 => ?_; clear h26
    refine pl_nil ?_
    refine co_then ?_
    cases hc28 : (decide (((i : Nat) : Int) < 400))
    ·
     rw [hc28] at h27
     have hp29 : ¬ (((i : Nat) : Int) < 400) := of_decide_eq_false hc28
     clear hc28
     refine co_false h27 rfl ?_
     refine wp_exit ?_
     refine co_thenX ?_
     refine co_thenX ?_
     refine co_blockX ?_
     refine co_then ?_
     refine co_seq ?_
     refine co_reg ?_
     refine pk0 (v := .int .i64 (ptsE (l.take i))) h27 rfl fun a30 h30 => ?_; clear h27
     refine pk0 (v := .int .i64 (ptsE (l.take i))) h30 rfl fun a31 h31 => ?_; clear h30
     refine pl_nil ?_
     refine co_then ?_
     refine wp_ret ?_
     refine co_ret1 h31 rfl rfl ?_
     exact ⟨by rw [ptsE_end (by omega) (by omega)], hB10⟩
    ·
     rw [hc28] at h27
     have hp32 : ((i : Nat) : Int) < 400 := of_decide_eq_true hc28
     clear hc28
     refine co_true h27 rfl ?_
     refine wp_skip ?_
     refine co_then ?_
     refine co_seq ?_
     refine wp_block ?_
     refine dr_eq (by kernel_rfl) (fun w33 hg34 => ?_)
     have hz35 := hg34.size
     refine dk0 0 (v := .int .i64 (ptsE (l.take i))) h27 rfl rfl rfl fun a36 h36 => ?_; clear h27
     refine dk0 1 (v := v) h36 rfl rfl rfl fun a37 h37 => ?_; clear h36
     refine dk0 2 (v := .int .i64 ((i : Nat) : Int)) h37 rfl rfl rfl fun a38 h38 => ?_; clear h37
     have hB40 := hb_new hB10 hg34
     obtain ⟨y39, hy39⟩ : ∃ z, l[i]? = some z := ⟨_, List.getElem?_eq_getElem (by first | omega | (simp; done) | (simp; omega))⟩
     have oky39 := hok _ (List.mem_of_getElem? hy39)
     have hlny39 := sl_len oky39.sl; have hsty39 := oky39.s; have hky39 := hsty39.ky; have hty39 := hsty39.tt
     refine dk 3 (v := pt (blkOf v) (offOf v + i * 10)) h38 rfl rfl rfl (fun x hx => by subst hx; exact (rn_index rfl rfl rfl Try.underlying50 Try.sizeOf60 (hs.below hB40) (by omega) (by first | omega | (simp; done) | (simp; omega)))) fun a41 h41 => ?_; clear h38
     refine dk0 4 (v := pt (blkOf v) (offOf v + i * 10 + 3)) h41 rfl rfl rfl fun a42 h42 => ?_; clear h41
     refine dk0 5 (v := pt (blkOf v) (offOf v + i * 10 + 3 + 6)) h42 rfl rfl rfl fun a43 h43 => ?_; clear h42
     refine dk 6 (v := y39.ov) h43 rfl rfl rfl (fun x hx => by subst hx; exact (rn_load1 rfl rfl Try.isAgg24 ((sl_at (hs.below hB40) hy39) 9 _ rfl))) fun a44 h44 => ?_; clear h43
     refine dk 7 (v := .int .i64 ((y39.d.ops.length : Nat) : Int)) h44 rfl rfl rfl (fun x hx => by subst hx; exact (rn_len rfl rfl Try.underlying24 (oky39.sl.below hB40))) fun a45 h45 => ?_; clear h44
     refine dk0 8 (v := v) h45 rfl rfl rfl fun a46 h46 => ?_; clear h45
     refine dk0 9 (v := .int .i64 ((i : Nat) : Int)) h46 rfl rfl rfl fun a47 h47 => ?_; clear h46
     refine dk 10 (v := pt (blkOf v) (offOf v + i * 10)) h47 rfl rfl rfl (fun x hx => by subst hx; exact (rn_index rfl rfl rfl Try.underlying50 Try.sizeOf60 (hs.below hB40) (by omega) (by first | omega | (simp; done) | (simp; omega)))) fun a48 h48 => ?_; clear h47
     refine dk0 11 (v := pt (blkOf v) (offOf v + i * 10 + 3)) h48 rfl rfl rfl fun a49 h49 => ?_; clear h48
     refine dk0 12 (v := pt (blkOf v) (offOf v + i * 10 + 3 + 2)) h49 rfl rfl rfl fun a50 h50 => ?_; clear h49
     refine dk 13 (v := .string y39.d.ky) h50 rfl rfl rfl (fun x hx => by subst hx; exact (rn_load1 rfl rfl Try.isAgg9 ((sl_at (hs.below hB40) hy39) 5 _ rfl))) fun a51 h51 => ?_; clear h50
     refine dk 14 (v := .int .i64 ((y39.d.ky.size : Nat) : Int)) h51 rfl rfl rfl (fun x hx => by subst hx; exact (rn_lenStr rfl rfl Try.underlying9)) fun a52 h52 => ?_; clear h51
     refine dk 15 (v := .int .i64 (((y39.d.ky.size : Nat) : Int) - 80)) h52 rfl rfl rfl (fun x hx => by subst hx; exact (rn_arith rfl rfl rfl rfl rfl rfl (IntWalk.i64_in _ (by omega)))) fun a53 h53 => ?_; clear h52
     refine dk0 16 (v := v) h53 rfl rfl rfl fun a54 h54 => ?_; clear h53
     refine dk0 17 (v := .int .i64 ((i : Nat) : Int)) h54 rfl rfl rfl fun a55 h55 => ?_; clear h54
     refine dk 18 (v := pt (blkOf v) (offOf v + i * 10)) h55 rfl rfl rfl (fun x hx => by subst hx; exact (rn_index rfl rfl rfl Try.underlying50 Try.sizeOf60 (hs.below hB40) (by omega) (by first | omega | (simp; done) | (simp; omega)))) fun a56 h56 => ?_; clear h55
     refine dk0 19 (v := pt (blkOf v) (offOf v + i * 10 + 3)) h56 rfl rfl rfl fun a57 h57 => ?_; clear h56
     refine dk0 20 (v := pt (blkOf v) (offOf v + i * 10 + 3 + 3)) h57 rfl rfl rfl fun a58 h58 => ?_; clear h57
     refine dk 21 (v := .string y39.d.tt) h58 rfl rfl rfl (fun x hx => by subst hx; exact (rn_load1 rfl rfl Try.isAgg9 ((sl_at (hs.below hB40) hy39) 6 _ rfl))) fun a59 h59 => ?_; clear h58
     refine dk 22 (v := .int .i64 ((y39.d.tt.size : Nat) : Int)) h59 rfl rfl rfl (fun x hx => by subst hx; exact (rn_lenStr rfl rfl Try.underlying9)) fun a60 h60 => ?_; clear h59
     refine dk 23 (v := .int .i64 (((y39.d.tt.size : Nat) : Int) - 80)) h60 rfl rfl rfl (fun x hx => by subst hx; exact (rn_arith rfl rfl rfl rfl rfl rfl (IntWalk.i64_in _ (by omega)))) fun a61 h61 => ?_; clear h60
     have hmm62 := mxI_p (ptsE (l.take i)) ((y39.d.ops.length : Nat) : Int)
     have hmm63 := mxI_p (mxI (ptsE (l.take i)) ((y39.d.ops.length : Nat) : Int)) (((y39.d.ky.size : Nat) : Int) - 80)
     have hmm64 := mxI_p (mxI (mxI (ptsE (l.take i)) ((y39.d.ops.length : Nat) : Int)) (((y39.d.ky.size : Nat) : Int) - 80)) (((y39.d.tt.size : Nat) : Int) - 80)
     refine dk0 24 (v := .int .i64 (mxI (mxI (mxI (ptsE (l.take i)) ((y39.d.ops.length : Nat) : Int)) (((y39.d.ky.size : Nat) : Int) - 80)) (((y39.d.tt.size : Nat) : Int) - 80))) h61 rfl rfl rfl fun a65 h65 => ?_; clear h61
     refine dk0 25 (v := .int .i64 (mxI (mxI (mxI (ptsE (l.take i)) ((y39.d.ops.length : Nat) : Int)) (((y39.d.ky.size : Nat) : Int) - 80)) (((y39.d.tt.size : Nat) : Int) - 80))) h65 rfl rfl rfl fun a66 h66 => ?_; clear h65
     refine dr_done (by kernel_rfl) ?_
     refine co_blockN ?_
     refine co_then ?_
     refine co_reg ?_
     refine pk0 (v := .int .i64 ((i : Nat) : Int)) h66 rfl fun a67 h67 => ?_; clear h66
     refine pk (v := .int .i64 ((i + 1 : Nat) : Int)) h67 rfl (rn_arith' rfl rfl rfl rfl rfl rfl (IntWalk.i64_in _ (by omega)) (by omega)) fun a68 h68 => ?_; clear h67
     refine pk0 (v := .int .i64 ((i + 1 : Nat) : Int)) h68 rfl fun a69 h69 => ?_; clear h68
     refine pl_nil ?_
     refine co_then ?_
     refine ⟨(l.length - (i + 1)), by omega, ?_⟩
     exact ⟨i + 1, h69.sub ⟨rfl, (slot_eq rfl (congrArg (Value.int .i64) (by first | rfl | exact (ptsE_at (by assumption)).symm))), rfl, trivial⟩, rfl, by omega, by omega, hB40⟩
end Go.Proofs.Ytdgboikkgeioeaa

/- catenalaw40: awake. Conditions: none. -/
namespace Go.Proofs.Ytdgboikkgeioeaa
open Go.RowKit Go.Shelf
set_option linter.unusedVariables false
set_option linter.unusedSimpArgs false

def awS : ByteArray := ⟨#[3, 1, 4, 0, 1, 9]⟩
theorem aw_pcs : pcs awS 0 = [⟨#[1, 4, 0]⟩, ⟨#[9]⟩] := by
  rw [pcs_y (by decide), show 0 + 1 + pcN awS 0 = 4 from rfl, pcs_y (by decide), show 4 + 1 + pcN awS 4 = 6 from rfl, pcs_n (by decide)]
  rfl
theorem aw_ev : evR ⟨#[1, 4, 0]⟩ = some (zeD 1 4 0) := by kernel_rfl
theorem aw_no : evR ⟨#[9]⟩ = none := by kernel_rfl
theorem aw_steps : stepsR awS = [zeD 1 4 0] := by
  unfold stepsR; rw [aw_pcs]; simp [List.filterMap_cons, aw_ev, aw_no]
theorem aw_put : allE [zeD 1 4 0] = 0 ∧ putA [zeD 1 4 0] = ⟨#[3, 1, 4, 0]⟩ := by constructor <;> kernel_rfl
theorem ev_ok {w : World} {B : Nat} {x : EvX} (hr : w.ownsRow B 66 3 x.ov x.d.ops.length (x.d.ops.flatMap opE)) (hs : EvS x.d) : EvOk w x := ⟨row_sl hr opE_len, hs⟩
theorem ev_sl {w : World} {B : Nat} {x : EvX} (hr : w.ownsRow B 66 3 x.ov x.d.ops.length (x.d.ops.flatMap opE)) : EvSl w x := ⟨row_sl hr opE_len⟩
set_option maxRecDepth 100000 in
set_option maxHeartbeats 2000000 in
theorem awake40_any (w : World) : Calls Try.prog 17 #[] w fun e w' => e = .returned (.bool true) ∧ Below w.heap.size w w' := by
  have hO := fun w => scOf_any awS w (by decide)
  have HO := Lib.hid hO; clear hO
  go_enter Try.func17, Try.ntmps17
  go_wp2_with fail
  refine (HO.out w).mono ?_
  rintro e w1 ⟨v, us, rfl, hm, hr, ho, hb⟩
  rw [aw_steps] at hm
  obtain ⟨x, rfl⟩ : ∃ x, us = [x] := by
    cases us with
    | nil => simp at hm
    | cons x r => cases r with
      | nil => exact ⟨x, rfl⟩
      | cons y r => simp at hm
  have hx : x.d = zeD 1 4 0 := by simpa using hm
  have hox := ho x (by simp)
  have hok : EvOk w1 x := ev_ok hox (by rw [hx]; exact ⟨⟨by decide, by decide⟩, by decide, by decide, by simp [zeD]⟩)
  have hP := scPut_any v [x] w1 (row_sl hr evE_len) (fun z hz => by rw [List.mem_singleton] at hz; subst hz; exact hok) (fun z hz => by rw [List.mem_singleton] at hz; subst hz; rw [hx]; decide) (by simp)
  rw [show [x].map EvX.d = [zeD 1 4 0] from hm, aw_put.1, aw_put.2] at hP
  obtain ⟨g, cap, rfl⟩ := ownsRow_succ hr
  have HP := Lib.hid hP; have HR := Lib.hid hr; have HB := Lib.hid hb; have HX := Lib.hid hx
  clear hP hr hb ho hox hok hm hx
  go_wp2_with fail
  refine HP.out.mono ?_
  rintro e w2 ⟨rfl, hb2⟩
  have hr2 := HR.out.kept (below_grown hb2) (.inr (by simp [Value.ownBlock]))
  have c0 : w2.cell? ⟨g, 0, none⟩ = some (.int .i64 1) := by
    have h := hr2.cells (g := g) rfl 0 (.int .i64 x.d.k) (by simp [evE]); rw [HX.out] at h; simpa [Addr.add_lit, zeD] using h
  have c1 : w2.cell? ⟨g, 1, none⟩ = some (.int .i64 4) := by
    have h := hr2.cells (g := g) rfl 1 (.int .i64 x.d.nd) (by simp [evE]); rw [HX.out] at h; simpa [Addr.add_lit, zeD] using h
  have HB2 := Lib.hid (HB.out.trans (hb2.mono HB.out.size)); clear hb2 hr2
  go_wp2
  go_ret
  exact ⟨rfl, HB2.out⟩
end Go.Proofs.Ytdgboikkgeioeaa

/- Steps whose operations lie in rows of their own: kept behind whatever else is written. Conditions: none. -/
namespace Go.Proofs.Ytdgboikkgeioeaa
open Go.RowKit Go.PlainAid
set_option linter.unusedVariables false
set_option linter.unusedSimpArgs false

/-- Each step's operations lie in a row. -/
def NR (w : World) (us : List EvX) (_ : Nat) : Prop := ∀ z ∈ us, ∃ B, w.ownsRow B 66 3 z.ov z.d.ops.length (z.d.ops.flatMap opE)
section
variable {w x : World} {us : List EvX} {k N : Nat} {T : TypeId} {cs : Array Value}
theorem NR.nil : NR w [] k := fun z hz => by cases hz
theorem NR.new (h : NR w us k) (hg : w.grownBy x none) : NR x us k := fun z hz => by
  obtain ⟨B, hr⟩ := h z hz; exact ⟨B, row_kept_new hr hg⟩
theorem NR.below (h : NR w us k) (hb : Below w.heap.size w x) : NR x us k := h.new (below_grown hb)
theorem NR.row (h : NR w us k) {B' sz j : Nat} {e : TypeId} {v : Value} {xs : List Value} (hr : w.ownsRow B' e sz v j xs) (hne : 66 ≠ e) (hg : w.grownBy x v.ownBlock) : NR x us k := fun z hz => by
  obtain ⟨B, h1⟩ := h z hz; exact ⟨B, row_kept_row h1 hr hg hne⟩
theorem NR.of {B : Nat} (h : ∀ z ∈ us, w.ownsRow B 66 3 z.ov z.d.ops.length (z.d.ops.flatMap opE)) : NR w us k := fun z hz => ⟨B, h z hz⟩
theorem NR.sl (h : NR w us k) : ∀ z ∈ us, EvSl w z := fun z hz => by obtain ⟨B, hr⟩ := h z hz; exact ev_sl hr
/-- Steps that were read may be put. -/
theorem NR.ok {S : ByteArray} (h : NR w us k) (hm : us.map EvX.d = stepsR S) : (∀ z ∈ us, EvOk w z) ∧ (∀ z ∈ us, z.d.ops.length ≤ 100) ∧ 4 * us.length ≤ S.size := by
  have hz : ∀ z ∈ us, z.d ∈ stepsR S := fun z hz => by rw [← hm]; exact List.mem_map_of_mem hz
  refine ⟨fun z h1 => ⟨(h.sl z h1).sl, (steps_ok (hz z h1)).2.2.2.2⟩, fun z h1 => (steps_ok (hz z h1)).2.2.2.1, ?_⟩
  have h2 := stepsR_len S; rw [← hm, List.length_map] at h2; exact h2
end
end Go.Proofs.Ytdgboikkgeioeaa

/- What the bound on the arguments' bulk gives for their lengths. Conditions: none. -/
namespace Go.Proofs.Ytdgboikkgeioeaa
theorem bulk_mem {H : Type} {l : List (DataW H)} {j : Nat} {d : DataW H} (h : l[j]? = some d) : Rows.uptoBulk d ≤ Rows.uptoBulkAll l := by
  induction l generalizing j with
  | nil => simp at h
  | cons x l ih =>
    cases j with
    | zero => simp at h; subst h; simp only [Rows.uptoBulkAll]; omega
    | succ j => have := ih (by simpa using h); simp only [Rows.uptoBulkAll]; omega
theorem bulk_all {H : Type} {l : List (DataW H)} (hk : Rows.uptoSmall H l = true) : Rows.uptoBulkAll l ≤ 1048576 := of_decide_eq_true hk
end Go.Proofs.Ytdgboikkgeioeaa

/- Parts that came in: a kind, a number, a big number, a text, a flag. Conditions: none. -/
namespace Go.Proofs.Ytdgboikkgeioeaa
open Go.RowKit Go.ChangeShapes Go.WideShapes Go.Deep

structure PartT where
  k : Int
  n : Int
  b : Int
  s : ByteArray
  f : Bool
instance : Inhabited PartT := ⟨⟨0, 0, 0, ⟨#[]⟩, false⟩⟩
structure PartOk (m : Nat) (p : PartT) : Prop where
  n0 : -9223372036854775808 ≤ p.n
  n1 : p.n ≤ 9223372036854775807
  b0 : 0 ≤ p.b
  b1 : p.b < 18446744073709551616
  s1 : p.s.size ≤ m
section
variable {H : Type} {enc : TypeId × Value → H} {P : Program} {w : World} {base : Nat} {spare : Nat → Bool} {held : Bool}
/-- A slice, each element of which is known together with its reading's bulk. -/
theorem open_rows_bulk {α : Type} [Inhabited α] {t e : TypeId} {fuel : Nat} {cs : List Value} {x : DataW H × List MemPlace} (E : α → List Value) (sz : Nat) (good : Nat → α → Prop) (mono : ∀ m k a, m ≤ k → good m a → good k a)
    (ht : P.underlying t = some (.slice e)) (hC : P.cellsOf e = sz) (hpos : 0 < sz)
    (elem : ∀ n cs x, DataW.trod enc P w base spare held n e cs = some x → ∃ a : α, cs = E a ∧ good (Rows.uptoBulk x.1) a)
    (h : DataW.trod enc P w base spare held fuel t cs = some x) :
    ∃ (l : List α) (v : Value), cs = [v] ∧ SliceOf E sz w v l ∧ ∀ a ∈ l, good (Rows.uptoBulk x.1) a := by
  rcases open_slice ht h with ⟨hcs, _⟩ | ⟨a, len, cap, m, n, D, Pl, hcs, _, hl, hm, hmm, hx, hi⟩
  · exact ⟨[], _, hcs, SliceOf.nil _ _ _, by simp⟩
  · have hlm : len ≤ m := by rw [hmm]; split <;> omega
    rw [hC] at hi
    obtain ⟨f, hf⟩ := choose_lt (α := α) (n := len) (p := fun i y => (∀ j u, (E y)[j]? = some u → w.cell? ((a.add (i * sz)).add j) = some u) ∧ good (Rows.uptoBulk (D i)) y ∧ (E y).length = sz) (fun i hilt => by
      obtain ⟨cs', hc, ht'⟩ := hi i (by omega)
      obtain ⟨y, rfl, hg⟩ := elem n cs' _ ht'
      obtain ⟨_, hcl, hat⟩ := World.cells?_some hc
      exact ⟨y, fun j u hu => by
        have hj : j < (E y).length := (List.getElem?_eq_some_iff.1 hu).1
        rw [hat j (by omega), hu], hg, hcl⟩)
    refine ⟨(List.range len).map f, _, hcs, ⟨some a, cap, by simp, by simpa using hl, by unfold maxLen at hm; omega, fun h => (by cases h), fun j hj => ?_⟩, fun y hy => ?_⟩
    · have hj' : j < len := by simpa using hj
      obtain ⟨b, off, spot⟩ := a
      have hspot : spot = none := by
        obtain ⟨h1, _, h3⟩ := hf 0 (by omega)
        have hc0 := h1 0 _ (List.getElem?_eq_getElem (show 0 < (E (f 0)).length by omega))
        simpa [Addr.add] using World.cell?_spot hc0
      subst hspot
      refine ⟨b, off, rfl, fun i u hu => ?_⟩
      have := (hf j hj').1 i u (by simpa using hu)
      rw [Addr.add_lit, Addr.add_lit] at this
      exact this
    · obtain ⟨i, hi', rfl⟩ := List.mem_map.1 hy
      have hil := List.mem_range.1 hi'
      refine mono _ _ _ ?_ (hf i hil).2.1
      subst hx
      have h1 : Rows.uptoBulk (D i) ≤ Rows.uptoBulkAll ((List.range len).map D) := bulk_mem (j := i) (by simp [hil])
      have e : Rows.uptoBulk (H := H) (.slice ((List.range len).map D) ((List.range (m - len)).map fun j => D (len + j))) = Rows.uptoBulkAll ((List.range len).map D) + Rows.uptoBulkAll ((List.range (m - len)).map fun j => D (len + j)) + 1 := by simp [Rows.uptoBulk]
      show _ ≤ Rows.uptoBulk (H := H) (.slice ((List.range len).map D) ((List.range (m - len)).map fun j => D (len + j)))
      rw [e]; omega
theorem PartOk.mono {m k : Nat} {p : PartT} (h : m ≤ k) (hp : PartOk m p) : PartOk k p := ⟨hp.n0, hp.n1, hp.b0, hp.b1, Nat.le_trans hp.s1 h⟩
end
end Go.Proofs.Ytdgboikkgeioeaa

/- Steps that came in. Conditions: none. -/
namespace Go.Proofs.Ytdgboikkgeioeaa
open Go.RowKit Go.ChangeShapes Go.WideShapes Go.Deep
set_option linter.unusedVariables false

section
variable {H : Type} {enc : TypeId × Value → H} {w : World} {base : Nat} {spare : Nat → Bool} {held : Bool}
set_option maxRecDepth 10000 in
theorem elem_opB (n : Nat) (cs : List Value) (x : DataW H × List MemPlace) (h : DataW.trod enc Try.prog w base spare held n 66 cs = some x) : ∃ p : OpT, cs = opE p ∧ (p.1.size ≤ Rows.uptoBulk x.1 ∧ p.2.1.size ≤ Rows.uptoBulk x.1) := by
  obtain ⟨xs, m, _, hx, hl, hxl, hf⟩ := DataW.trod_struct Try.underlying66 h
  have hl3 : cs.length = 3 := hl
  have hx3 : xs.length = 3 := hxl
  clear hl hxl
  match cs, hl3, xs, hx3 with
  | [c0, c1, c2], _, [x0, x1, x2], _ =>
    have h0 : DataW.trod enc Try.prog w base spare held m 9 [c0] = some x0 := hf 0 _ rfl
    have h1 : DataW.trod enc Try.prog w base spare held m 9 [c1] = some x1 := hf 1 _ rfl
    have h2 : DataW.trod enc Try.prog w base spare held m 4 [c2] = some x2 := hf 2 _ rfl
    obtain ⟨a, e0, y0, w0⟩ := DataW.trod_string Try.underlying9 h0
    obtain ⟨b, e1, y1, w1⟩ := DataW.trod_string Try.underlying9 h1
    obtain ⟨c, e2, y2⟩ := DataW.trod_bool Try.underlying4 h2
    simp only [List.cons.injEq, and_true] at e0 e1 e2
    subst e0 e1 e2
    refine ⟨(a, b, c), rfl, ?_⟩
    rw [hx]
    simp only [List.map_cons, List.map_nil]
    rw [y0, y1]
    simp [Rows.uptoBulk, Rows.uptoBulkAll]
    omega
structure EvM (w : World) (m : Nat) (x : EvX) : Prop where
  sl : SliceOf opE 3 w x.ov x.d.ops
  ts : 0 ≤ x.d.at_ ∧ x.d.at_ < 18446744073709551616
  ky : x.d.ky.size ≤ m
  tt : x.d.tt.size ≤ m
  ops : ∀ o ∈ x.d.ops, o.1.size ≤ m ∧ o.2.1.size ≤ m
theorem EvM.mono {m k : Nat} {x : EvX} (h : m ≤ k) (a : EvM w m x) : EvM w k x := ⟨a.sl, a.ts, Nat.le_trans a.ky h, Nat.le_trans a.tt h, fun o ho => ⟨Nat.le_trans (a.ops o ho).1 h, Nat.le_trans (a.ops o ho).2 h⟩⟩
theorem EvM.ok {m : Nat} {x : EvX} (h : m ≤ 1048576) (a : EvM w m x) : EvOk w x := ⟨a.sl, ⟨a.ts, Nat.le_trans a.ky h, Nat.le_trans a.tt h, fun o ho => ⟨Nat.le_trans (a.ops o ho).1 h, Nat.le_trans (a.ops o ho).2 h⟩⟩⟩
set_option maxRecDepth 10000 in
theorem elem_ev (n : Nat) (cs : List Value) (x : DataW H × List MemPlace) (h : DataW.trod enc Try.prog w base spare held n 60 cs = some x) : ∃ e : EvX, cs = evE e ∧ EvM w (Rows.uptoBulk x.1) e := by
  obtain ⟨xs, m, _, hx, hl, hxl, hf⟩ := DataW.trod_struct Try.underlying60 h
  have hl10 : cs.length = 10 := hl
  have hx4 : xs.length = 4 := hxl
  clear hl hxl
  match cs, hl10, xs, hx4 with
  | [c0, c1, c2, c3, c4, c5, c6, c7, c8, c9], _, [x0, x1, x2, x3], _ =>
    have h0 : DataW.trod enc Try.prog w base spare held m 3 [c0] = some x0 := hf 0 _ rfl
    have h1 : DataW.trod enc Try.prog w base spare held m 3 [c1] = some x1 := hf 1 _ rfl
    have h2 : DataW.trod enc Try.prog w base spare held m 3 [c2] = some x2 := hf 2 _ rfl
    have h3 : DataW.trod enc Try.prog w base spare held m 35 [c3, c4, c5, c6, c7, c8, c9] = some x3 := hf 3 _ rfl
    obtain ⟨zs, m2, _, hz, _, hzl, hg⟩ := DataW.trod_struct Try.underlying35 h3
    have hz7 : zs.length = 7 := hzl
    match zs, hz7 with
    | [z0, z1, z2, z3, z4, z5, z6], _ =>
      have g0 : DataW.trod enc Try.prog w base spare held m2 3 [c3] = some z0 := hg 0 _ rfl
      have g1 : DataW.trod enc Try.prog w base spare held m2 3 [c4] = some z1 := hg 1 _ rfl
      have g2 : DataW.trod enc Try.prog w base spare held m2 9 [c5] = some z2 := hg 2 _ rfl
      have g3 : DataW.trod enc Try.prog w base spare held m2 9 [c6] = some z3 := hg 3 _ rfl
      have g4 : DataW.trod enc Try.prog w base spare held m2 23 [c7] = some z4 := hg 4 _ rfl
      have g5 : DataW.trod enc Try.prog w base spare held m2 3 [c8] = some z5 := hg 5 _ rfl
      have g6 : DataW.trod enc Try.prog w base spare held m2 24 [c9] = some z6 := hg 6 _ rfl
      obtain ⟨k, e0, _, _⟩ := DataW.trod_int Try.underlying3 h0
      obtain ⟨nd, e1, _, _⟩ := DataW.trod_int Try.underlying3 h1
      obtain ⟨n', e2, _, _⟩ := DataW.trod_int Try.underlying3 h2
      obtain ⟨ak, e3, _, _⟩ := DataW.trod_int Try.underlying3 g0
      obtain ⟨an, e4, _, _⟩ := DataW.trod_int Try.underlying3 g1
      obtain ⟨ky, e5, y2, _⟩ := DataW.trod_string Try.underlying9 g2
      obtain ⟨tt, e6, y3, _⟩ := DataW.trod_string Try.underlying9 g3
      obtain ⟨at_, e7, _, w4⟩ := DataW.trod_int Try.underlying23 g4
      obtain ⟨am, e8, _, _⟩ := DataW.trod_int Try.underlying3 g5
      obtain ⟨l, v, e9, hs, ho⟩ := open_rows_bulk opE 3 (fun m (o : OpT) => o.1.size ≤ m ∧ o.2.1.size ≤ m) (fun _ _ _ h a => ⟨Nat.le_trans a.1 h, Nat.le_trans a.2 h⟩) Try.underlying24 (by kernel_rfl) (by omega) elem_opB g6
      simp only [List.cons.injEq, and_true] at e0 e1 e2 e3 e4 e5 e6 e7 e8 e9
      subst e0 e1 e2 e3 e4 e5 e6 e7 e8 e9
      have hb : Rows.uptoBulk z6.1 ≤ Rows.uptoBulk x.1 ∧ ky.size ≤ Rows.uptoBulk x.1 ∧ tt.size ≤ Rows.uptoBulk x.1 := by
        rw [hx]; simp only [List.map_cons, List.map_nil]; rw [hz]; simp only [List.map_cons, List.map_nil]; rw [y2, y3]
        simp [Rows.uptoBulk, Rows.uptoBulkAll]
        omega
      exact ⟨⟨⟨k, nd, n', ak, an, ky, tt, at_, am, l⟩, c9⟩, rfl, ⟨hs, wf_u64 w4, hb.2.1, hb.2.2, fun o hm => ⟨Nat.le_trans (ho o hm).1 hb.1, Nat.le_trans (ho o hm).2 hb.1⟩⟩⟩
theorem open_evs {fuel : Nat} {cs : List Value} {x : DataW H × List MemPlace} (h : DataW.trod enc Try.prog w base spare held fuel 50 cs = some x) :
    ∃ (l : List EvX) (v : Value), cs = [v] ∧ SliceOf evE 10 w v l ∧ ∀ p ∈ l, EvM w (Rows.uptoBulk x.1) p :=
  open_rows_bulk evE 10 (EvM w) (fun _ _ _ h => EvM.mono h) Try.underlying50 (by kernel_rfl) (by omega) elem_ev h
end
end Go.Proofs.Ytdgboikkgeioeaa

/- catenalaw40: ScriptBack. Conditions: texts of at most 1048576 bytes. -/
namespace Go.Proofs.Ytdgboikkgeioeaa
open Go.RowKit Go.PlainAid
set_option linter.unusedVariables false
set_option linter.unusedSimpArgs false


def SLw (w : World) (u : Value) (l : List OpT) : Prop := SliceOf opE 3 w u l
theorem SLw.new {w x : World} {u : Value} {l : List OpT} (h : SLw w u l) (hg : w.grownBy x none) : SLw x u l := SliceOf.below h (grown_below hg)
theorem SLw.below {w x : World} {u : Value} {l : List OpT} (h : SLw w u l) (hb : Below w.heap.size w x) : SLw x u l := SliceOf.below h hb
end Go.Proofs.Ytdgboikkgeioeaa

/- Package script, pure: steps between which other pieces stand. Conditions: none. -/
namespace Go.Proofs.Ytdgboikkgeioeaa
open Go.RowKit Go.PlainAid
set_option linter.unusedVariables false
set_option linter.unusedSimpArgs false

def plB (ps : List ByteArray) : ByteArray := ⟨(ps.flatMap pcL).toArray⟩
theorem plB_app (ps qs : List ByteArray) : plB (ps ++ qs) = plB ps ++ plB qs := by
  apply ByteArray.ext; unfold plB; simp [ByteArray.data_append]
theorem plB_one (x : ByteArray) : plB [x] = (⟨[UInt8.ofNat x.size].toArray⟩ : ByteArray) ++ x := by
  apply ByteArray.ext; unfold plB pcL; simp [ByteArray.data_append]
theorem plB_snoc (ps : List ByteArray) (x : ByteArray) : plB (ps ++ [x]) = plB ps ++ ((⟨[UInt8.ofNat x.size].toArray⟩ : ByteArray) ++ x) := by rw [plB_app, plB_one]
structure Nz (ps : List ByteArray) (L : List EvX) (n : Nat) : Prop where
  sz : ∀ p ∈ ps, p.size ≤ 255
  ev : ps.filterMap evR = L.map (fun z => cleanE z.d)
  ln : ps.length ≤ n
section
variable {ps : List ByteArray} {L l : List EvX} {n i : Nat} {x : ByteArray} {y : EvX}
theorem Nz.nil : Nz [] (l.take 0) 0 := ⟨by simp, by simp, by simp⟩
theorem Nz.size (h : Nz ps L n) : (plB ps).size ≤ 256 * n := by
  have key : ∀ ps : List ByteArray, (∀ p ∈ ps, p.size ≤ 255) → (ps.flatMap pcL).length ≤ 256 * ps.length := fun ps => by
    induction ps with
    | nil => simp
    | cons p r ih =>
      intro hp
      have h1 := ih (fun q hq => hp q (by simp [hq])); have h2 := hp p (by simp)
      have h3 : (pcL p).length = p.size + 1 := by unfold pcL; rw [List.length_cons, Array.length_toList]; rfl
      rw [List.flatMap_cons, List.length_append, List.length_cons]; omega
  have h1 := key ps h.sz; have h2 := h.ln
  show (ps.flatMap pcL).toArray.size ≤ _; rw [List.size_toArray]; omega
theorem Nz.noise (h : Nz ps L n) (hx : x.size ≤ 255) (he : evR x = none) : Nz (ps ++ [x]) L (n + 1) :=
  ⟨fun p hp => by rcases List.mem_append.1 hp with hp | hp; exact h.sz p hp; rw [List.mem_singleton] at hp; subst hp; exact hx, by rw [List.filterMap_append, h.ev]; simp [he], by have := h.ln; simp; omega⟩
theorem Nz.skip (h : Nz ps L n) : Nz ps L (n + 1) := ⟨h.sz, h.ev, by have := h.ln; omega⟩
theorem Nz.le {m : Nat} (h : Nz ps L n) (hm : n ≤ m) : Nz ps L m := ⟨h.sz, h.ev, Nat.le_trans h.ln hm⟩
theorem Nz.step (h : Nz ps (l.take i) n) (hy : l[i]? = some y) (ho : oneE y.d = 0) (ht : tsE y.d) : Nz (ps ++ [oneB y.d]) (l.take (i + 1)) (n + 1) :=
  ⟨fun p hp => by rcases List.mem_append.1 hp with hp | hp; exact h.sz p hp; rw [List.mem_singleton] at hp; subst hp; exact oneB_len _,
    by rw [List.filterMap_append, h.ev, List.take_add_one, hy]; simp [one_read ho ht], by have := h.ln; simp; omega⟩
theorem Nz.last (h : Nz ps (l.take i) n) (hi : l.length ≤ i) : Nz ps (l.take (i + 1)) (n + 1) := by
  have := h.skip; rw [List.take_of_length_le hi] at this; rw [List.take_of_length_le (by omega)]; exact this
theorem cut_one (hi : i < l.length) : (l.take (i + 1)).drop i = [l[i]] := by
  rw [List.take_add_one, List.getElem?_eq_getElem hi, List.drop_append_of_le_length (by rw [List.length_take]; omega), List.drop_of_length_le (by rw [List.length_take]; omega)]; rfl
theorem one_cut (h : allE (l.map EvX.d) = 0) (hi : i < l.length) : ∃ y, l[i]? = some y ∧ oneE y.d = 0 ∧ allE (((l.take (i + 1)).drop i).map EvX.d) = 0 ∧ putA (((l.take (i + 1)).drop i).map EvX.d) = plB [oneB y.d] := by
  have ho : oneE l[i].d = 0 := allE_all h _ (List.mem_map_of_mem (List.getElem_mem _))
  have ha : allE (([l[i]] : List EvX).map EvX.d) = 0 := allE_of fun e he => by simp at he; subst he; exact ho
  refine ⟨l[i], List.getElem?_eq_getElem hi, ho, by rw [cut_one hi]; exact ha, ?_⟩
  rw [cut_one hi, putA_0 ha]; unfold plB; rw [allB_pcs]; rfl
theorem nz_none {us : List EvX} (hm : us.map EvX.d = stepsR ((⟨[UInt8.ofNat x.size].toArray⟩ : ByteArray) ++ x)) (hx : x.size ≤ 255) (h0 : us.length = 0) : evR x = none := by
  rw [← plB_one] at hm
  unfold plB at hm
  rw [stepsR_list (fun p hp => by rw [List.mem_singleton] at hp; subst hp; exact hx)] at hm
  have := congrArg List.length hm
  rw [List.length_map, h0] at this
  cases h : evR x with
  | none => rfl
  | some d => simp [List.filterMap_cons, h] at this
theorem Nz.steps (h : Nz ps L n) : stepsR (plB ps) = L.map (fun z => cleanE z.d) := by unfold plB; rw [stepsR_list h.sz, h.ev]
end
end Go.Proofs.Ytdgboikkgeioeaa

/- Slices of texts that came in. Conditions: none. -/
namespace Go.Proofs.Ytdgboikkgeioeaa
open Go.RowKit Go.ChangeShapes Go.WideShapes

/-- One text a cell. -/
def strE (s : ByteArray) : List Value := [.string s]
theorem weights_all_mem {H : Type} {P : Program} {e : TypeId} : ∀ {D : List (DataW H)} {d : DataW H}, d ∈ D → ∀ n ∈ d.weights P e, n ∈ DataW.weightsAll P e D
  | [], _, h, _, _ => absurd h (by simp)
  | x :: D, d, h, n, hn => by
    unfold DataW.weightsAll
    rcases List.mem_cons.1 h with rfl | h
    · exact List.mem_append_left _ hn
    · exact List.mem_append_right _ (weights_all_mem h n hn)
theorem weights_le {H : Type} {P : Program} {ts : List TypeId} {ds : List (DataW H)} (h : (DataW.weightsEach P ts ds).all (· ≤ reachBytes) = true) {j : Nat} {t : TypeId} {d : DataW H} (ht : ts[j]? = some t) (hd : ds[j]? = some d) : ∀ n ∈ d.weights P t, n ≤ reachBytes := fun n hn => by
  have := List.all_eq_true.1 h _ (DataW.weights_mem_each ht hd n hn)
  simpa using this
theorem SliceOf.mk' {α : Type} {enc : α → List Value} {sz : Nat} {w : World} {b off cap : Nat} {l : List α} (hc : l.length ≤ cap) (hm : cap ≤ 9223372036854775807) (h : ∀ j (hj : j < l.length), w.rangeAt b (off + j * sz) (enc l[j])) : SliceOf enc sz w (.slice (some ⟨b, off, none⟩) l.length cap) l :=
  ⟨_, cap, rfl, hc, hm, fun h => (by cases h), fun j hj => ⟨b, off, rfl, h j hj⟩⟩
theorem open_strs {H : Type} {enc : TypeId × Value → H} {P : Program} {w : World} {base : Nat} {spare : Nat → Bool} {held : Bool} {t e : TypeId} {fuel : Nat} {v : Value} {d : DataW H} {ps : List MemPlace}
    (ht : P.underlying t = some (.slice e)) (he : P.underlying e = some .string) (hc : P.cellsOf e = 1) (hby : P.bytesOf e = 16)
    (hsz : ∀ n ∈ d.weights P t, n ≤ reachBytes) (h : DataW.trod enc P w base spare held fuel t [v] = some (d, ps)) :
    ∃ l : List ByteArray, SliceOf strE 1 w v l ∧ l.length ≤ 8796093022208 ∧ ∀ s ∈ l, s.size ≤ 140737488351232 := by
  rcases open_strings ht he hc h with ⟨hcs, _⟩ | ⟨a, len, cap, ss, hcs, _, hl, hm, hss, hx, hcell, _⟩
  · obtain rfl : v = .slice none 0 0 := by simpa using hcs
    exact ⟨[], SliceOf.nil _ _ _, by simp, by simp⟩
  · obtain rfl : v = .slice (some a) len cap := by simpa using hcs
    simp only [Prod.mk.injEq] at hx
    obtain ⟨rfl, _⟩ := hx
    have hlen : len ≤ ss.length := by rw [hss]; split <;> omega
    have htl : (ss.take len).length = len := by rw [List.length_take]; omega
    have hw : ∀ n, n = ((strs (ss.take len) : List (DataW H)).length + (strs (ss.drop len) : List (DataW H)).length) * P.bytesOf e ∨ (n ∈ DataW.weightsAll P e (strs (ss.take len) : List (DataW H))) → n ≤ reachBytes := fun n hn => hsz n (by
      unfold DataW.weights
      rw [ht]
      simp only [List.mem_cons, List.mem_append]
      rcases hn with hn | hn
      · exact Or.inl hn
      · exact Or.inr (Or.inl hn))
    refine ⟨ss.take len, ?_, ?_, fun s hs => ?_⟩
    · obtain ⟨b, off, spot⟩ := a
      by_cases h0 : len = 0
      · subst h0
        refine ⟨some ⟨b, off, spot⟩, cap, by rw [List.take_zero]; rfl, by rw [List.take_zero]; exact Nat.zero_le _, by unfold maxLen at hm; omega, fun h => (by cases h), fun j hj => absurd hj (by simp)⟩
      · have hspot : spot = none := by
          have hc0 := hcell 0 (by omega)
          simpa [Addr.add] using World.cell?_spot hc0
        subst hspot
        have := SliceOf.mk' (enc := strE) (sz := 1) (w := w) (b := b) (off := off) (cap := cap) (l := ss.take len) (by omega) (by unfold maxLen at hm; omega) (fun j hj i u hu => by
          have hj' : j < len := by omega
          have hcj := hcell j (by omega)
          rw [Addr.add_lit] at hcj
          match i, hu with
          | 0, hu =>
            simp only [strE, List.getElem?_cons_zero, Option.some.injEq] at hu
            subst hu
            rw [Nat.mul_one, Nat.add_zero, hcj]
            simp [List.getD, List.getElem?_eq_getElem (show j < ss.length by omega)])
        rw [htl] at this
        exact this
    · have := hw _ (Or.inl rfl)
      simp only [strs, List.length_map, List.length_take, List.length_drop, hby, reachBytes] at this
      rw [htl]; omega
    · have := hw s.size (Or.inr (weights_all_mem (d := .lit (.string s.data.toList)) (by simp only [strs]; exact List.mem_map.2 ⟨s, hs, rfl⟩) _ (show s.size ∈ [s.data.toList.length] by rw [List.mem_singleton]; simp)))
      simpa [reachBytes] using this
end Go.Proofs.Ytdgboikkgeioeaa

/- catenalaw40: ScriptNoise. Conditions: texts of at most 1048576 bytes. -/
namespace Go.Proofs.Ytdgboikkgeioeaa
open Go.RowKit Go.PlainAid
set_option linter.unusedVariables false
set_option linter.unusedSimpArgs false


theorem rem_in {i j : Int} (h : 0 ≤ i) (hj : 0 < j) : 0 ≤ i.tmod j ∧ i.tmod j < j := ⟨Int.tmod_nonneg j h, Int.tmod_lt_of_pos i hj⟩
theorem rn_remA {P : Program} {m : List (Nat × Value)} {w : World} {o : Oper} {T T' : TypeId} {x y : Operand} {k : IntKind} {i j z : Int} (ho : o.op = .binOp .rem T x y T') (hx : ev m x = some (.int k i)) (hy : ev m y = some (.int k j)) (hj : j ≠ 0) (hcl : binOp .rem T (.int k i) (.int k j) = Op.intDiv .rem k i j) (hz : i.tmod j = z) : (execOp (lk m) o).run P w = .ok (.value (.int k z)) w := by
  unfold execOp
  have hg : (eqGuard .rem T x y (.int k i) (.int k j)).run P w = .ok () w := by unfold eqGuard; rfl
  subst hz
  simp only [ho, lk_ev hx, lk_ev hy, Sem.run_bind, hg, hcl, Op.intDiv, hj, if_false, Result.andThen_ok]
  rfl

set_option maxRecDepth 100000 in
set_option maxHeartbeats 6400000 in
theorem scriptNoise_any (v : Value) (l : List EvX) (nv : Value) (nl : List ByteArray) (av : Value) (al : List Int) (w : World) (hs : SliceOf evE 10 w v l) (hok : ∀ z ∈ l, EvOk w z) (h100 : ptsE (l.take 400) ≤ 20 → l.length ≤ 100 → ∀ z ∈ l, z.d.ops.length ≤ 100) (hn : SliceOf strE 1 w nv nl) (ha : SliceOf (intE .u8) 1 w av al) (hoka : ∀ z ∈ al, (fun z : Int => 0 ≤ z ∧ z ≤ 255) z) :
    Calls Try.prog 7 #[v, nv, av] w fun e w' => e = .returned (.bool true) ∧ Below w.heap.size w w' := by
 have hB0 := Below.refl w.heap.size w
 have hl_hs := sl_len hs
 have hl_hn := sl_len hn
 have hl_ha := sl_len ha
 refine co_enter (n := 120) Try.func7 rfl rfl rfl [(0, v), (1, nv), (2, av)] rfl (fun a h0 => ?_)
 refine co_seq ?_
 refine co_reg ?_
 refine pk0 (v := .bool false) h0 rfl fun a1 h1 => ?_; clear h0
 refine pl_nil ?_
 refine co_then ?_
 refine co_seq ?_
 refine co_seq ?_
 refine co_reg ?_
 refine pk0 (v := v) h1 rfl fun a2 h2 => ?_; clear h1
 refine pw h2 rfl (op_call (args := #[v]) (R := fun res xw => res = .int .i64 (ptsE (l.take 400)) ∧ Below w.heap.size w xw) rfl rfl rfl (by kernel_rfl) (by kernel_rfl) (Try.call16 _ _) (parts36_any v l w hs (fun z hz => ⟨(hok z hz).sl.below hB0, (hok z hz).s⟩)) (by rintro e x ⟨rfl, hb5⟩; exact ⟨_, rfl, ⟨rfl, hb5⟩⟩)) ?_; clear h2
 rintro _ w4 a3 ⟨rfl, hb5⟩ h3
 have hz6 := hb5.size
 refine pk0 (v := .bool (decide (ptsE (l.take 400) > 20))) h3 rfl fun a7 h7 => ?_; clear h3
 refine pk0 (v := .bool (decide (ptsE (l.take 400) > 20))) h7 rfl fun a8 h8 => ?_; clear h7
 have hB10 := hb_call hB0 hb5
 cases hc9 : (decide (ptsE (l.take 400) > 20))
 ·
  rw [hc9] at h8
  have hp11 : ¬ (ptsE (l.take 400) > 20) := of_decide_eq_false hc9
  clear hc9
  refine pk0 (v := v) h8 rfl fun a12 h12 => ?_; clear h8
  refine pk (v := .int .i64 ((l.length : Nat) : Int)) h12 rfl (rn_len rfl rfl Try.underlying50 (hs.below hB10)) fun a13 h13 => ?_; clear h12
  refine pk0 (v := .bool (decide (((l.length : Nat) : Int) > 60))) h13 rfl fun a14 h14 => ?_; clear h13
  refine pk0 (v := .bool (decide (((l.length : Nat) : Int) > 60))) h14 rfl fun a15 h15 => ?_; clear h14
  refine pk0 (v := .bool (decide (((l.length : Nat) : Int) > 60))) h15 rfl fun a16 h16 => ?_; clear h15
  cases hc17 : (decide (((l.length : Nat) : Int) > 60))
  ·
   rw [hc17] at h16
   have hp18 : ¬ (((l.length : Nat) : Int) > 60) := of_decide_eq_false hc17
   clear hc17
   refine pk0 (v := nv) h16 rfl fun a19 h19 => ?_; clear h16
   refine pk (v := .int .i64 ((nl.length : Nat) : Int)) h19 rfl (rn_len rfl rfl Try.underlying62 (hn.below hB10)) fun a20 h20 => ?_; clear h19
   refine pk0 (v := .bool (decide (((nl.length : Nat) : Int) > 60))) h20 rfl fun a21 h21 => ?_; clear h20
   refine pk0 (v := .bool (decide (((nl.length : Nat) : Int) > 60))) h21 rfl fun a22 h22 => ?_; clear h21
   refine pl_nil ?_
   refine co_then ?_
   cases hc23 : (decide (((nl.length : Nat) : Int) > 60))
   ·
    rw [hc23] at h22
    have hp24 : ¬ (((nl.length : Nat) : Int) > 60) := of_decide_eq_false hc23
    clear hc23
    refine co_false h22 rfl ?_
    refine wp_skip ?_
    refine co_then ?_
    refine co_seq ?_
    refine co_reg ?_
    refine pk0 (v := v) h22 rfl fun a25 h25 => ?_; clear h22
    refine pw h25 rfl (op_call (args := #[v]) (R := fun res xw => res = .tuple #[.string (putA (l.map EvX.d)), .int .i64 (allE (l.map EvX.d))] ∧ Below w4.heap.size w4 xw) rfl rfl rfl (by kernel_rfl) (by kernel_rfl) (Try.call18 _ _) (scPut_any v l w4 (hs.below hB10) (fun z hz => ⟨(hok z hz).sl.below hB10, (hok z hz).s⟩) (h100 (by omega) (by omega)) (by omega)) (by rintro e x ⟨rfl, hb28⟩; exact ⟨_, rfl, ⟨rfl, hb28⟩⟩)) ?_; clear h25
    rintro _ w27 a26 ⟨rfl, hb28⟩ h26
    have hz29 := hb28.size
    have hpll := putA_len (l.map EvX.d); rw [List.length_map] at hpll
    refine pk0 (v := .tuple #[.string (putA (l.map EvX.d)), .int .i64 (allE (l.map EvX.d))]) h26 rfl fun a30 h30 => ?_; clear h26
    refine pk0 (v := .string (putA (l.map EvX.d))) h30 rfl fun a31 h31 => ?_; clear h30
    refine pk0 (v := .int .i64 (allE (l.map EvX.d))) h31 rfl fun a32 h32 => ?_; clear h31
    refine pk0 (v := .string (putA (l.map EvX.d))) h32 rfl fun a33 h33 => ?_; clear h32
    refine pk0 (v := .int .i64 (allE (l.map EvX.d))) h33 rfl fun a34 h34 => ?_; clear h33
    refine pl_nil ?_
    refine co_then ?_
    refine co_seq ?_
    refine co_seq ?_
    refine co_reg ?_
    refine pk0 (v := .int .i64 (allE (l.map EvX.d))) h34 rfl fun a35 h35 => ?_; clear h34
    refine pk0 (v := .bool (allE (l.map EvX.d) != 0)) h35 rfl fun a36 h36 => ?_; clear h35
    refine pl_nil ?_
    refine co_then ?_
    have hB38 := hb_call hB10 hb28
    cases hc37 : (allE (l.map EvX.d) != 0)
    ·
     rw [hc37] at h36
     have hp39 : ¬ (allE (l.map EvX.d) ≠ 0) := by first | simpa using hc37 | simpa [and_assoc] using hc37
     clear hc37
     refine co_false h36 rfl ?_
     refine wp_skip ?_
     refine co_then ?_
     refine co_seq ?_
     refine co_reg ?_
     refine pk0 (v := .string (⟨#[]⟩)) h36 rfl fun a40 h40 => ?_; clear h36
     refine pl_nil ?_
     refine co_then ?_
     refine co_seq ?_
     refine co_seq ?_
     refine co_reg ?_
     refine pk0 (v := .int .i64 0) h40 rfl fun a41 h41 => ?_; clear h40
     refine pl_nil ?_
     refine co_then ?_
     refine wp_block ?_
     have h42 : Slots 120 [(0, v), (1, nv), (2, av), (7, .string (putA (l.map EvX.d))), (8, .int .i64 (allE (l.map EvX.d))), (9, .string (⟨#[]⟩)), (10, .int .i64 0)] _ := h41.sub ⟨rfl, rfl, rfl, rfl, rfl, rfl, rfl, trivial⟩; clear h41
     refine co_loop (fun mm a x => ∃ (i : Nat) (ps : List ByteArray), Slots 120 [(0, v), (1, nv), (2, av), (7, .string (putA (l.map EvX.d))), (8, .int .i64 (allE (l.map EvX.d))), (9, .string (plB ps)), (10, .int .i64 ((i : Nat) : Int))] a ∧ mm = l.length + 1 - i ∧ (i ≤ l.length + 1) ∧ (Nz ps (l.take i) (i * 61)) ∧ Below w.heap.size w x) (l.length + 1 - 0) ?_ ?_
     · exact ⟨0, [], h42.sub ⟨rfl, rfl, rfl, rfl, rfl, (slot_eq rfl (congrArg Value.string (by first | rfl | (rw [plB_app]; simp only [*])))), (slot_eq rfl (congrArg (Value.int .i64) (by first | rfl | omega))), trivial⟩, rfl, by omega, by first | exact Nz.nil | exact hnz', hB38⟩
     · rintro k43 a44 w45 ⟨i, ps, h44, rfl, hi46, hi47, hB48⟩
       have hz49 := hB48.size
       have hnz : Nz ps (l.take i) (i * 61) := by assumption
       have hnzs := hnz.size
       refine co_seq ?_
       refine co_seq ?_
       refine co_reg ?_
       refine pk0 (v := .int .i64 ((i : Nat) : Int)) h44 rfl fun a50 h50 => ?_; clear h44
       refine pk0 (v := v) h50 rfl fun a51 h51 => ?_; clear h50
       refine pk (v := .int .i64 ((l.length : Nat) : Int)) h51 rfl (rn_len rfl rfl Try.underlying50 (hs.below hB48)) fun a52 h52 => ?_; clear h51
       refine pk0 (v := .bool (decide (((i : Nat) : Int) ≤ ((l.length : Nat) : Int)))) h52 rfl fun a53 h53 => ?_; clear h52
       refine pl_nil ?_
       refine co_then ?_
       cases hc54 : (decide (((i : Nat) : Int) ≤ ((l.length : Nat) : Int)))
       ·
        rw [hc54] at h53
        have hp55 : ¬ (((i : Nat) : Int) ≤ ((l.length : Nat) : Int)) := of_decide_eq_false hc54
        clear hc54
        refine co_false h53 rfl ?_
        refine wp_exit ?_
        refine co_thenX ?_
        refine co_thenX ?_
        refine co_blockX ?_
        refine co_then ?_
        refine co_seq ?_
        refine co_reg ?_
        refine pk0 (v := .string (plB ps)) h53 rfl fun a56 h56 => ?_; clear h53
        refine pw h56 rfl (op_call (args := #[.string (plB ps)]) (R := fun res xw => ∃ us : List EvX, us.map EvX.d = stepsR (plB ps) ∧ xw.ownsRow w45.heap.size 60 10 res us.length (us.flatMap evE) ∧ (∀ z ∈ us, xw.ownsRow w45.heap.size 66 3 z.ov z.d.ops.length (z.d.ops.flatMap opE)) ∧ Below w45.heap.size w45 xw) rfl rfl rfl (by kernel_rfl) (by kernel_rfl) (Try.call21 _ _) (scOf_any (plB ps) w45 (by omega)) (by rintro e x ⟨v, us, rfl, h⟩; exact ⟨_, rfl, us, h⟩)) ?_; clear h56
        rintro u59 w58 a57 ⟨us60, hm61, hr62, ho63, hb64⟩ h57
        have hz65 := hb64.size
        have hk66 := (NR.of (k := 0) ho63).ok hm61
        have hk67 := hk66.2.2
        refine pk0 (v := .string (putA (l.map EvX.d))) h57 rfl fun a68 h68 => ?_; clear h57
        have hB71 := hb_call hB48 hb64
        refine pw h68 rfl (op_call (args := #[.string (putA (l.map EvX.d))]) (R := fun res xw => ∃ us : List EvX, us.map EvX.d = stepsR (putA (l.map EvX.d)) ∧ xw.ownsRow w58.heap.size 60 10 res us.length (us.flatMap evE) ∧ (∀ z ∈ us, xw.ownsRow w58.heap.size 66 3 z.ov z.d.ops.length (z.d.ops.flatMap opE)) ∧ Below w58.heap.size w58 xw) rfl rfl rfl (by kernel_rfl) (by kernel_rfl) (Try.call21 _ _) (scOf_any (putA (l.map EvX.d)) w58 (by omega)) (by rintro e x ⟨v, us, rfl, h⟩; exact ⟨_, rfl, us, h⟩)) ?_; clear h68
        rintro u72 w70 a69 ⟨us73, hm74, hr75, ho76, hb77⟩ h69
        have hz78 := hb77.size
        have hk79 := (NR.of (k := 0) ho76).ok hm74
        have hk80 := hk79.2.2
        have hNR83 := (NR.of (k := 0) ho63).below hb77
        have hr84 := row_kept_new hr62 (below_grown hb77)
        refine pw h69 rfl (op_call (args := #[u59, u72]) (R := fun res xw => res = .bool true ∧ Below w70.heap.size w70 xw) rfl rfl rfl (by kernel_rfl) (by kernel_rfl) (Try.call20 _ _) (sameEv_any u59 us60 u72 us73 w70 (row_sl hr84 evE_len) (hNR83.sl) (row_sl hr75 evE_len) ((NR.of (k := 0) ho76).sl) (hm61.trans (hnz.steps.trans (by rw [hm74, put_read (by omega) (fun e he => by obtain ⟨z, hz, rfl⟩ := List.mem_map.1 he; exact (hok z hz).s.ts), List.take_of_length_le (by omega), List.map_map]; rfl)))) (by rintro e x ⟨rfl, hb85⟩; exact ⟨_, rfl, ⟨rfl, hb85⟩⟩)) ?_; clear h69
        rintro _ w82 a81 ⟨rfl, hb85⟩ h81
        have hz86 := hb85.size
        refine pk0 (v := .bool true) h81 rfl fun a87 h87 => ?_; clear h81
        refine pw h87 rfl (op_call (args := #[]) (R := fun res xw => res = .bool true ∧ Below w82.heap.size w82 xw) rfl rfl rfl (by kernel_rfl) (by kernel_rfl) (Try.call17 _ _) (awake40_any w82) (by rintro e x ⟨rfl, h⟩; exact ⟨_, rfl, rfl, h⟩)) ?_; clear h87
        rintro _ w89 a88 ⟨rfl, hb90⟩ h88
        have hz91 := hb90.size
        refine pk0 (v := .bool true) h88 rfl fun a92 h92 => ?_; clear h88
        refine pk0 (v := .bool true) h92 rfl fun a93 h93 => ?_; clear h92
        refine pl_nil ?_
        refine co_then ?_
        refine wp_ret ?_
        refine co_ret1 h93 rfl rfl ?_
        have hB94 := hb_call hB71 hb77
        have hB95 := hb_call hB94 hb85
        have hB96 := hb_call hB95 hb90
        exact ⟨rfl, hB96⟩
       ·
        rw [hc54] at h53
        have hp97 : ((i : Nat) : Int) ≤ ((l.length : Nat) : Int) := of_decide_eq_true hc54
        clear hc54
        refine co_true h53 rfl ?_
        refine wp_skip ?_
        refine co_then ?_
        refine co_seq ?_
        refine wp_block ?_
        refine co_seq ?_
        refine co_seq ?_
        refine co_reg ?_
        refine pk0 (v := .int .i64 0) h53 rfl fun a98 h98 => ?_; clear h53
        refine pl_nil ?_
        refine co_then ?_
        refine wp_block ?_
        have h99 : Slots 120 [(0, v), (1, nv), (2, av), (7, .string (putA (l.map EvX.d))), (8, .int .i64 (allE (l.map EvX.d))), (9, .string (plB ps)), (10, .int .i64 ((i : Nat) : Int)), (11, .int .i64 0)] _ := h98.sub ⟨rfl, rfl, rfl, rfl, rfl, rfl, rfl, rfl, trivial⟩; clear h98
        refine co_loop (fun mm a x => ∃ (k : Nat) (ps2 : List ByteArray), Slots 120 [(0, v), (1, nv), (2, av), (7, .string (putA (l.map EvX.d))), (8, .int .i64 (allE (l.map EvX.d))), (9, .string (plB ps2)), (10, .int .i64 ((i : Nat) : Int)), (11, .int .i64 ((k : Nat) : Int))] a ∧ mm = nl.length - k ∧ (k ≤ nl.length) ∧ (Nz ps2 (l.take i) (i * 61 + k)) ∧ Below w.heap.size w x) (nl.length - 0) ?_ ?_
        · exact ⟨0, ps, h99.sub ⟨rfl, rfl, rfl, rfl, rfl, rfl, rfl, (slot_eq rfl (congrArg (Value.int .i64) (by first | rfl | omega))), trivial⟩, rfl, by omega, by first | exact hnz | exact hnj', hB48⟩
        · rintro k100 a101 w102 ⟨k, ps2, h101, rfl, hi103, hi104, hB105⟩
          have hz106 := hB105.size
          have hnzi : Nz ps2 (l.take i) (i * 61 + k) := by assumption
          have hnzs2 := hnzi.size
          refine co_seq ?_
          refine co_seq ?_
          refine co_reg ?_
          refine pk0 (v := .int .i64 ((k : Nat) : Int)) h101 rfl fun a107 h107 => ?_; clear h101
          refine pk0 (v := nv) h107 rfl fun a108 h108 => ?_; clear h107
          refine pk (v := .int .i64 ((nl.length : Nat) : Int)) h108 rfl (rn_len rfl rfl Try.underlying62 (hn.below hB105)) fun a109 h109 => ?_; clear h108
          refine pk0 (v := .bool (decide (((k : Nat) : Int) < ((nl.length : Nat) : Int)))) h109 rfl fun a110 h110 => ?_; clear h109
          refine pl_nil ?_
          refine co_then ?_
          cases hc111 : (decide (((k : Nat) : Int) < ((nl.length : Nat) : Int)))
          ·
           rw [hc111] at h110
           have hp112 : ¬ (((k : Nat) : Int) < ((nl.length : Nat) : Int)) := of_decide_eq_false hc111
           clear hc111
           refine co_false h110 rfl ?_
           refine wp_exit ?_
           refine co_thenX ?_
           refine co_thenX ?_
           refine co_blockX ?_
           refine co_then ?_
           refine co_seq ?_
           refine co_reg ?_
           refine pk0 (v := .int .i64 ((i : Nat) : Int)) h110 rfl fun a113 h113 => ?_; clear h110
           refine pk0 (v := v) h113 rfl fun a114 h114 => ?_; clear h113
           refine pk (v := .int .i64 ((l.length : Nat) : Int)) h114 rfl (rn_len rfl rfl Try.underlying50 (hs.below hB105)) fun a115 h115 => ?_; clear h114
           refine pk0 (v := .bool (decide (((i : Nat) : Int) < ((l.length : Nat) : Int)))) h115 rfl fun a116 h116 => ?_; clear h115
           refine pl_nil ?_
           refine co_then ?_
           cases hc117 : (decide (((i : Nat) : Int) < ((l.length : Nat) : Int)))
           ·
            rw [hc117] at h116
            have hp118 : ¬ (((i : Nat) : Int) < ((l.length : Nat) : Int)) := of_decide_eq_false hc117
            clear hc117
            refine co_false h116 rfl ?_
            refine wp_skip ?_
            refine co_blockN ?_
            refine co_then ?_
            refine co_reg ?_
            refine pk0 (v := .int .i64 ((i : Nat) : Int)) h116 rfl fun a119 h119 => ?_; clear h116
            refine pk (v := .int .i64 ((i + 1 : Nat) : Int)) h119 rfl (rn_arith' rfl rfl rfl rfl rfl rfl (IntWalk.i64_in _ (by omega)) (by omega)) fun a120 h120 => ?_; clear h119
            refine pk0 (v := .int .i64 ((i + 1 : Nat) : Int)) h120 rfl fun a121 h121 => ?_; clear h120
            refine pl_nil ?_
            refine co_then ?_
            refine ⟨(l.length + 1 - (i + 1)), by omega, ?_⟩
            have hnz' := (hnzi.last (by omega)).le (m := (i + 1) * 61) (by omega)
            exact ⟨i + 1, ps2, h121.sub ⟨rfl, rfl, rfl, rfl, rfl, rfl, rfl, trivial⟩, rfl, by omega, by first | exact Nz.nil | exact hnz', hB105⟩
           ·
            rw [hc117] at h116
            have hp122 : ((i : Nat) : Int) < ((l.length : Nat) : Int) := of_decide_eq_true hc117
            clear hc117
            refine co_true h116 rfl ?_
            refine co_seq ?_
            refine co_reg ?_
            refine pk0 (v := v) h116 rfl fun a123 h123 => ?_; clear h116
            refine pk0 (v := .int .i64 ((i : Nat) : Int)) h123 rfl fun a124 h124 => ?_; clear h123
            refine pk0 (v := .int .i64 ((i : Nat) : Int)) h124 rfl fun a125 h125 => ?_; clear h124
            refine pk (v := .int .i64 ((i + 1 : Nat) : Int)) h125 rfl (rn_arith' rfl rfl rfl rfl rfl rfl (IntWalk.i64_in _ (by omega)) (by omega)) fun a126 h126 => ?_; clear h125
            refine pk (v := subV v i (i + 1) 10) h126 rfl (rn_sliceLH rfl rfl rfl rfl Try.underlying50 Try.sizeOf60 (hs.below hB105) (by omega) (by omega) (by omega) (by omega)) fun a127 h127 => ?_; clear h126
            refine pw h127 rfl (op_call (args := #[subV v i (i + 1) 10]) (R := fun res xw => res = .tuple #[.string (putA (((l.take (i + 1)).drop i).map EvX.d)), .int .i64 (allE (((l.take (i + 1)).drop i).map EvX.d))] ∧ Below w102.heap.size w102 xw) rfl rfl rfl (by kernel_rfl) (by kernel_rfl) (Try.call18 _ _) (scPut_any (subV v i (i + 1) 10) ((l.take (i + 1)).drop i) w102 (sl_sub (hs.below hB105) _ _ (by omega) (by omega)) (fun z hz => ⟨(hok z (List.mem_of_mem_take (List.mem_of_mem_drop hz))).sl.below hB105, (hok z (List.mem_of_mem_take (List.mem_of_mem_drop hz))).s⟩) (fun z hz => h100 (by omega) (by omega) z (List.mem_of_mem_take (List.mem_of_mem_drop hz))) (by simp only [List.length_drop, List.length_take]; omega)) (by rintro e x ⟨rfl, hb130⟩; exact ⟨_, rfl, ⟨rfl, hb130⟩⟩)) ?_; clear h127
            rintro _ w129 a128 ⟨rfl, hb130⟩ h128
            have hz131 := hb130.size
            obtain ⟨yoq132, hyoq132, hoeq132, haeq132, hpaq132⟩ := one_cut (l := l) (i := i) (by omega) (by omega)
            have hpsq132 : (putA (((l.take (i + 1)).drop i).map EvX.d)).size ≤ 256 := by rw [hpaq132]; exact (Nz.size (L := [yoq132]) (n := 1) ⟨fun p hp => by rw [List.mem_singleton] at hp; subst hp; exact oneB_len _, by simp [one_read hoeq132 (hok yoq132 (List.mem_of_getElem? hyoq132)).s.ts], by simp⟩)
            refine pk0 (v := .tuple #[.string (putA (((l.take (i + 1)).drop i).map EvX.d)), .int .i64 (allE (((l.take (i + 1)).drop i).map EvX.d))]) h128 rfl fun a133 h133 => ?_; clear h128
            refine pk0 (v := .string (putA (((l.take (i + 1)).drop i).map EvX.d))) h133 rfl fun a134 h134 => ?_; clear h133
            refine pk0 (v := .int .i64 (allE (((l.take (i + 1)).drop i).map EvX.d))) h134 rfl fun a135 h135 => ?_; clear h134
            refine pk0 (v := .string (putA (((l.take (i + 1)).drop i).map EvX.d))) h135 rfl fun a136 h136 => ?_; clear h135
            refine pk0 (v := .int .i64 (allE (((l.take (i + 1)).drop i).map EvX.d))) h136 rfl fun a137 h137 => ?_; clear h136
            refine pl_nil ?_
            refine co_then ?_
            refine co_seq ?_
            refine co_seq ?_
            refine co_reg ?_
            refine pk0 (v := .int .i64 (allE (((l.take (i + 1)).drop i).map EvX.d))) h137 rfl fun a138 h138 => ?_; clear h137
            refine pk0 (v := .bool (allE (((l.take (i + 1)).drop i).map EvX.d) != 0)) h138 rfl fun a139 h139 => ?_; clear h138
            refine pl_nil ?_
            refine co_then ?_
            have hc140 : (allE (((l.take (i + 1)).drop i).map EvX.d) != 0) = false := by rw [haeq132]; rfl
            rw [hc140] at h139; clear hc140
            refine co_false h139 rfl ?_
            refine wp_skip ?_
            refine co_then ?_
            refine co_reg ?_
            refine pk0 (v := .string (plB ps2)) h139 rfl fun a141 h141 => ?_; clear h139
            refine pk0 (v := .string (putA (((l.take (i + 1)).drop i).map EvX.d))) h141 rfl fun a142 h142 => ?_; clear h141
            have hcs143 : ((plB ps2) ++ (putA (((l.take (i + 1)).drop i).map EvX.d))).size = (plB ps2 : ByteArray).size + (putA (((l.take (i + 1)).drop i).map EvX.d) : ByteArray).size := ByteArray.size_append
            refine pk (v := .string ((plB ps2) ++ (putA (((l.take (i + 1)).drop i).map EvX.d)))) h142 rfl (rn_addStr rfl rfl rfl (by omega)) fun a144 h144 => ?_; clear h142
            refine pk0 (v := .string ((plB ps2) ++ (putA (((l.take (i + 1)).drop i).map EvX.d)))) h144 rfl fun a145 h145 => ?_; clear h144
            refine pl_nil ?_
            refine co_blockN ?_
            refine co_then ?_
            refine co_reg ?_
            refine pk0 (v := .int .i64 ((i : Nat) : Int)) h145 rfl fun a146 h146 => ?_; clear h145
            refine pk (v := .int .i64 ((i + 1 : Nat) : Int)) h146 rfl (rn_arith' rfl rfl rfl rfl rfl rfl (IntWalk.i64_in _ (by omega)) (by omega)) fun a147 h147 => ?_; clear h146
            refine pk0 (v := .int .i64 ((i + 1 : Nat) : Int)) h147 rfl fun a148 h148 => ?_; clear h147
            refine pl_nil ?_
            refine co_then ?_
            refine ⟨(l.length + 1 - (i + 1)), by omega, ?_⟩
            have hnz' := (hnzi.step hyoq132 hoeq132 (hok yoq132 (List.mem_of_getElem? hyoq132)).s.ts).le (m := (i + 1) * 61) (by omega)
            have hB149 := hb_call hB105 hb130
            exact ⟨i + 1, ps2 ++ [oneB yoq132.d], h148.sub ⟨rfl, rfl, rfl, rfl, rfl, (slot_eq rfl (congrArg Value.string (by first | rfl | (rw [plB_app]; simp only [*])))), rfl, trivial⟩, rfl, by omega, by first | exact Nz.nil | exact hnz', hB149⟩
          ·
           rw [hc111] at h110
           have hp150 : ((k : Nat) : Int) < ((nl.length : Nat) : Int) := of_decide_eq_true hc111
           clear hc111
           refine co_true h110 rfl ?_
           refine wp_skip ?_
           refine co_then ?_
           refine co_seq ?_
           refine wp_block ?_
           refine co_seq ?_
           refine co_reg ?_
           refine pk0 (v := .int .i64 0) h110 rfl fun a151 h151 => ?_; clear h110
           refine pl_nil ?_
           refine co_then ?_
           refine co_seq ?_
           refine co_seq ?_
           refine co_reg ?_
           refine pk0 (v := .int .i64 ((k : Nat) : Int)) h151 rfl fun a152 h152 => ?_; clear h151
           refine pk0 (v := av) h152 rfl fun a153 h153 => ?_; clear h152
           refine pk (v := .int .i64 ((al.length : Nat) : Int)) h153 rfl (rn_len rfl rfl Try.underlying63 (ha.below hB105)) fun a154 h154 => ?_; clear h153
           refine pk0 (v := .bool (decide (((k : Nat) : Int) < ((al.length : Nat) : Int)))) h154 rfl fun a155 h155 => ?_; clear h154
           refine pl_nil ?_
           refine co_then ?_
           cases hc156 : (decide (((k : Nat) : Int) < ((al.length : Nat) : Int)))
           ·
            rw [hc156] at h155
            have hp157 : ¬ (((k : Nat) : Int) < ((al.length : Nat) : Int)) := of_decide_eq_false hc156
            clear hc156
            refine co_false h155 rfl ?_
            refine wp_skip ?_
            refine co_then ?_
            refine co_seq ?_
            refine co_reg ?_
            refine pk0 (v := .int .i64 0) h155 rfl fun a158 h158 => ?_; clear h155
            refine pk0 (v := .int .i64 ((i : Nat) : Int)) h158 rfl fun a159 h159 => ?_; clear h158
            refine pk0 (v := .bool ((0 : Int) == ((i : Nat) : Int))) h159 rfl fun a160 h160 => ?_; clear h159
            refine pk0 (v := .bool ((0 : Int) == ((i : Nat) : Int))) h160 rfl fun a161 h161 => ?_; clear h160
            cases hc162 : ((0 : Int) == ((i : Nat) : Int))
            ·
             rw [hc162] at h161
             have hp163 : ¬ (0 = ((i : Nat) : Int)) := by first | simpa using hc162 | simpa [and_assoc] using hc162
             clear hc162
             refine psk h161 rfl fun a164 h164 => ?_; clear h161
             refine psk h164 rfl fun a165 h165 => ?_; clear h164
             refine psk h165 rfl fun a166 h166 => ?_; clear h165
             refine psk h166 rfl fun a167 h167 => ?_; clear h166
             refine psk h167 rfl fun a168 h168 => ?_; clear h167
             refine psk h168 rfl fun a169 h169 => ?_; clear h168
             refine pk0 (v := .bool false) h169 rfl fun a170 h170 => ?_; clear h169
             refine pl_nil ?_
             refine co_then ?_
             refine co_false h170 rfl ?_
             refine wp_skip ?_
             refine co_blockN ?_
             refine co_then ?_
             refine co_reg ?_
             refine pk0 (v := .int .i64 ((k : Nat) : Int)) h170 rfl fun a171 h171 => ?_; clear h170
             refine pk (v := .int .i64 ((k + 1 : Nat) : Int)) h171 rfl (rn_arith' rfl rfl rfl rfl rfl rfl (IntWalk.i64_in _ (by omega)) (by omega)) fun a172 h172 => ?_; clear h171
             refine pk0 (v := .int .i64 ((k + 1 : Nat) : Int)) h172 rfl fun a173 h173 => ?_; clear h172
             refine pl_nil ?_
             refine co_then ?_
             refine ⟨(nl.length - (k + 1)), by omega, ?_⟩
             have hnj' := hnzi.skip
             exact ⟨k + 1, ps2, h173.sub ⟨rfl, rfl, rfl, rfl, rfl, rfl, rfl, rfl, trivial⟩, rfl, by omega, by first | exact hnz | exact hnj', hB105⟩
            ·
             rw [hc162] at h161
             have hp174 : 0 = ((i : Nat) : Int) := by first | simpa using hc162 | simpa [and_assoc] using hc162
             clear hc162
             refine pk0 (v := nv) h161 rfl fun a175 h175 => ?_; clear h161
             refine pk0 (v := .int .i64 ((k : Nat) : Int)) h175 rfl fun a176 h176 => ?_; clear h175
             obtain ⟨y177, hy177⟩ : ∃ z, nl[k]? = some z := ⟨_, List.getElem?_eq_getElem (by first | omega | (simp; done) | (simp; omega))⟩
             refine pk (v := pt (blkOf nv) (offOf nv + k * 1)) h176 rfl (rn_index rfl rfl rfl Try.underlying62 Try.sizeOf9 (hn.below hB105) (by omega) (by first | omega | (simp; done) | (simp; omega))) fun a178 h178 => ?_; clear h176
             refine pk (v := .string y177) h178 rfl (rn_load1 rfl rfl Try.isAgg9 ((sl_at (hn.below hB105) hy177) 0 _ rfl)) fun a179 h179 => ?_; clear h178
             refine pk (v := .int .i64 ((y177.size : Nat) : Int)) h179 rfl (rn_lenStr rfl rfl Try.underlying9) fun a180 h180 => ?_; clear h179
             refine pk0 (v := .bool (decide (((y177.size : Nat) : Int) ≤ 255))) h180 rfl fun a181 h181 => ?_; clear h180
             refine pk0 (v := .bool (decide (((y177.size : Nat) : Int) ≤ 255))) h181 rfl fun a182 h182 => ?_; clear h181
             refine pl_nil ?_
             refine co_then ?_
             cases hc183 : (decide (((y177.size : Nat) : Int) ≤ 255))
             ·
              rw [hc183] at h182
              have hp184 : ¬ (((y177.size : Nat) : Int) ≤ 255) := of_decide_eq_false hc183
              clear hc183
              refine co_false h182 rfl ?_
              refine wp_skip ?_
              refine co_blockN ?_
              refine co_then ?_
              refine co_reg ?_
              refine pk0 (v := .int .i64 ((k : Nat) : Int)) h182 rfl fun a185 h185 => ?_; clear h182
              refine pk (v := .int .i64 ((k + 1 : Nat) : Int)) h185 rfl (rn_arith' rfl rfl rfl rfl rfl rfl (IntWalk.i64_in _ (by omega)) (by omega)) fun a186 h186 => ?_; clear h185
              refine pk0 (v := .int .i64 ((k + 1 : Nat) : Int)) h186 rfl fun a187 h187 => ?_; clear h186
              refine pl_nil ?_
              refine co_then ?_
              refine ⟨(nl.length - (k + 1)), by omega, ?_⟩
              have hnj' := hnzi.skip
              exact ⟨k + 1, ps2, h187.sub ⟨rfl, rfl, rfl, rfl, rfl, rfl, rfl, rfl, trivial⟩, rfl, by omega, by first | exact hnz | exact hnj', hB105⟩
             ·
              rw [hc183] at h182
              have hp188 : ((y177.size : Nat) : Int) ≤ 255 := of_decide_eq_true hc183
              clear hc183
              refine co_true h182 rfl ?_
              refine co_seq ?_
              refine dr_gen (fun x => Below w.heap.size w x) (by kernel_rfl) (fun w189 hg190 => ?_) (fun w189 hg190 => ?_)
              ·
               have hz191 := hg190.size
               have hB192 := hb_new hB105 hg190
               exact hB192
              have hz193 := hg190.size
              have hB194 := hb_new hB105 hg190
              refine dk0 0 (v := nv) h182 rfl rfl hB194 fun a195 h195 => ?_; clear h182
              refine dk0 1 (v := .int .i64 ((k : Nat) : Int)) h195 rfl rfl hB194 fun a196 h196 => ?_; clear h195
              refine dk 2 (v := pt (blkOf nv) (offOf nv + k * 1)) h196 rfl rfl hB194 (fun x hx => (rn_index rfl rfl rfl Try.underlying62 Try.sizeOf9 (hn.below hx) (by omega) (by first | omega | (simp; done) | (simp; omega)))) fun a197 h197 => ?_; clear h196
              refine dk 3 (v := .string y177) h197 rfl rfl hB194 (fun x hx => (rn_load1 rfl rfl Try.isAgg9 ((sl_at (hn.below hx) hy177) 0 _ rfl))) fun a198 h198 => ?_; clear h197
              refine dk 4 (v := .int .i64 ((y177.size : Nat) : Int)) h198 rfl rfl hB194 (fun x hx => (rn_lenStr rfl rfl Try.underlying9)) fun a199 h199 => ?_; clear h198
              refine dk 5 (v := .int .u8 ((y177.size : Nat) : Int)) h199 rfl rfl hB194 (fun x hx => (rn_conv rfl rfl Try.underlying3 Try.underlying5 (IntWalk.u8_in _ (by omega)))) fun a200 h200 => ?_; clear h199
              refine dk0 8 (v := nv) h200 rfl rfl hB194 fun a201 h201 => ?_; clear h200
              refine dk0 9 (v := .int .i64 ((k : Nat) : Int)) h201 rfl rfl hB194 fun a202 h202 => ?_; clear h201
              refine dk 10 (v := pt (blkOf nv) (offOf nv + k * 1)) h202 rfl rfl hB194 (fun x hx => (rn_index rfl rfl rfl Try.underlying62 Try.sizeOf9 (hn.below hx) (by omega) (by first | omega | (simp; done) | (simp; omega)))) fun a203 h203 => ?_; clear h202
              refine dk 11 (v := .string y177) h203 rfl rfl hB194 (fun x hx => (rn_load1 rfl rfl Try.isAgg9 ((sl_at (hn.below hx) hy177) 0 _ rfl))) fun a204 h204 => ?_; clear h203
              refine d1 6 h204 rfl rfl (op_new (v := fun N => .slice (some ⟨N, 0, none⟩) 1 1) (T := 5) (cs := #[.int .u8 ((y177.size : Nat) : Int)]) (by kernel_rfl) (by kernel_rfl) (by kernel_rfl)) ?_ ?_; clear h204
              ·
               rintro _ w206 ⟨N207, rfl, hN210, hz211, hk209, hg208⟩
               have hz212 := hg208.size
               have hB213 := hb_new hB194 hg208
               exact hB213
              rintro _ w206 a205 ⟨N207, rfl, hN210, hz211, hk209, hg208⟩ h205
              have hz212 := hg208.size
              try dsimp only at h205
              have hB213 := hb_new hB194 hg208
              refine dr_many [7] (by kernel_rfl) (by simp) ⟨?_, trivial⟩
              ·
               have hcs214 : (⟨[UInt8.ofNat y177.size].toArray⟩ : ByteArray).size = 1 := rfl
               refine dr_opVal (i := 7) (v := .string (⟨[UInt8.ofNat y177.size].toArray⟩ : ByteArray)) h205 rfl rfl rfl rfl (by kernel_rfl) rfl (rn_convOwn rfl rfl Try.underlying63 Try.underlying5 Try.underlying9 (row_byte hk209 (by omega))) hB213 (fun a215 h215 => ?_); clear h205
               have hcs216 : ((⟨[UInt8.ofNat y177.size].toArray⟩ : ByteArray) ++ y177).size = ((⟨[UInt8.ofNat y177.size].toArray⟩ : ByteArray) : ByteArray).size + y177.size := ByteArray.size_append
               refine dk 12 (v := .string ((⟨[UInt8.ofNat y177.size].toArray⟩ : ByteArray) ++ y177)) h215 rfl rfl hB213 (fun x hx => (rn_addStr rfl rfl rfl (by omega))) fun a217 h217 => ?_; clear h215
               refine dk0 13 (v := .string ((⟨[UInt8.ofNat y177.size].toArray⟩ : ByteArray) ++ y177)) h217 rfl rfl hB213 fun a218 h218 => ?_; clear h217
               refine dr_done (by kernel_rfl) ?_
               refine co_then ?_
               refine co_seq ?_
               refine co_reg ?_
               refine pk0 (v := .string ((⟨[UInt8.ofNat y177.size].toArray⟩ : ByteArray) ++ y177)) h218 rfl fun a219 h219 => ?_; clear h218
               refine pw h219 rfl (op_call (args := #[.string ((⟨[UInt8.ofNat y177.size].toArray⟩ : ByteArray) ++ y177)]) (R := fun res xw => ∃ us : List EvX, us.map EvX.d = stepsR ((⟨[UInt8.ofNat y177.size].toArray⟩ : ByteArray) ++ y177) ∧ xw.ownsRow w206.heap.size 60 10 res us.length (us.flatMap evE) ∧ (∀ z ∈ us, xw.ownsRow w206.heap.size 66 3 z.ov z.d.ops.length (z.d.ops.flatMap opE)) ∧ Below w206.heap.size w206 xw) rfl rfl rfl (by kernel_rfl) (by kernel_rfl) (Try.call22 _ _) (rcOf_any ((⟨[UInt8.ofNat y177.size].toArray⟩ : ByteArray) ++ y177) w206 (by omega)) (by rintro e x ⟨v, us, rfl, h⟩; exact ⟨_, rfl, us, h⟩)) ?_; clear h219
               rintro u222 w221 a220 ⟨us223, hm224, hr225, ho226, hb227⟩ h220
               have hz228 := hb227.size
               have hk229 := (NR.of (k := 0) ho226).ok hm224
               have hk230 := hk229.2.2
               refine pk (v := .int .i64 ((us223.length : Nat) : Int)) h220 rfl (rn_lenOwn rfl rfl Try.underlying50 hr225) fun a231 h231 => ?_; clear h220
               refine pk0 (v := .bool (((us223.length : Nat) : Int) == 0)) h231 rfl fun a232 h232 => ?_; clear h231
               refine pl_nil ?_
               refine co_then ?_
               have hB234 := hb_call hB213 hb227
               cases hc233 : (((us223.length : Nat) : Int) == 0)
               ·
                rw [hc233] at h232
                have hp235 : ¬ (((us223.length : Nat) : Int) = 0) := by first | simpa using hc233 | simpa [and_assoc] using hc233
                clear hc233
                refine co_false h232 rfl ?_
                refine wp_skip ?_
                refine co_blockN ?_
                refine co_then ?_
                refine co_reg ?_
                refine pk0 (v := .int .i64 ((k : Nat) : Int)) h232 rfl fun a236 h236 => ?_; clear h232
                refine pk (v := .int .i64 ((k + 1 : Nat) : Int)) h236 rfl (rn_arith' rfl rfl rfl rfl rfl rfl (IntWalk.i64_in _ (by omega)) (by omega)) fun a237 h237 => ?_; clear h236
                refine pk0 (v := .int .i64 ((k + 1 : Nat) : Int)) h237 rfl fun a238 h238 => ?_; clear h237
                refine pl_nil ?_
                refine co_then ?_
                refine ⟨(nl.length - (k + 1)), by omega, ?_⟩
                have hnj' := hnzi.skip
                exact ⟨k + 1, ps2, h238.sub ⟨rfl, rfl, rfl, rfl, rfl, rfl, rfl, rfl, trivial⟩, rfl, by omega, by first | exact hnz | exact hnj', hB234⟩
               ·
                rw [hc233] at h232
                have hp239 : ((us223.length : Nat) : Int) = 0 := by first | simpa using hc233 | simpa [and_assoc] using hc233
                clear hc233
                refine co_true h232 rfl ?_
                refine co_reg ?_
                refine pk0 (v := .string (plB ps2)) h232 rfl fun a240 h240 => ?_; clear h232
                refine pk0 (v := .string ((⟨[UInt8.ofNat y177.size].toArray⟩ : ByteArray) ++ y177)) h240 rfl fun a241 h241 => ?_; clear h240
                have hcs242 : ((plB ps2) ++ ((⟨[UInt8.ofNat y177.size].toArray⟩ : ByteArray) ++ y177)).size = (plB ps2 : ByteArray).size + ((⟨[UInt8.ofNat y177.size].toArray⟩ : ByteArray) ++ y177 : ByteArray).size := ByteArray.size_append
                refine pk (v := .string ((plB ps2) ++ ((⟨[UInt8.ofNat y177.size].toArray⟩ : ByteArray) ++ y177))) h241 rfl (rn_addStr rfl rfl rfl (by omega)) fun a243 h243 => ?_; clear h241
                refine pk0 (v := .string ((plB ps2) ++ ((⟨[UInt8.ofNat y177.size].toArray⟩ : ByteArray) ++ y177))) h243 rfl fun a244 h244 => ?_; clear h243
                refine pl_nil ?_
                refine co_blockN ?_
                refine co_then ?_
                refine co_reg ?_
                refine pk0 (v := .int .i64 ((k : Nat) : Int)) h244 rfl fun a245 h245 => ?_; clear h244
                refine pk (v := .int .i64 ((k + 1 : Nat) : Int)) h245 rfl (rn_arith' rfl rfl rfl rfl rfl rfl (IntWalk.i64_in _ (by omega)) (by omega)) fun a246 h246 => ?_; clear h245
                refine pk0 (v := .int .i64 ((k + 1 : Nat) : Int)) h246 rfl fun a247 h247 => ?_; clear h246
                refine pl_nil ?_
                refine co_then ?_
                refine ⟨(nl.length - (k + 1)), by omega, ?_⟩
                have hnj' := hnzi.noise (x := y177) (by omega) (nz_none hm224 (by omega) (by omega))
                exact ⟨k + 1, ps2 ++ [y177], h247.sub ⟨rfl, rfl, rfl, rfl, rfl, (slot_eq rfl (congrArg Value.string (by first | rfl | exact (plB_snoc _ _).symm))), rfl, rfl, trivial⟩, rfl, by omega, by first | exact hnz | exact hnj', hB234⟩
           ·
            rw [hc156] at h155
            have hp248 : ((k : Nat) : Int) < ((al.length : Nat) : Int) := of_decide_eq_true hc156
            clear hc156
            refine co_true h155 rfl ?_
            refine co_reg ?_
            refine pk0 (v := av) h155 rfl fun a249 h249 => ?_; clear h155
            refine pk0 (v := .int .i64 ((k : Nat) : Int)) h249 rfl fun a250 h250 => ?_; clear h249
            obtain ⟨y251, hy251⟩ : ∃ z, al[k]? = some z := ⟨_, List.getElem?_eq_getElem (by first | omega | (simp; done) | (simp; omega))⟩
            have oky251 := hoka _ (List.mem_of_getElem? hy251)
            have k252 : 0 ≤ y251 := oky251.1
            have k253 : y251 ≤ 255 := oky251.2
            refine pk (v := pt (blkOf av) (offOf av + k * 1)) h250 rfl (rn_index rfl rfl rfl Try.underlying63 Try.sizeOf5 (ha.below hB105) (by omega) (by first | omega | (simp; done) | (simp; omega))) fun a254 h254 => ?_; clear h250
            refine pk (v := .int .u8 y251) h254 rfl (rn_load1 rfl rfl Try.isAgg5 ((sl_at (ha.below hB105) hy251) 0 _ rfl)) fun a255 h255 => ?_; clear h254
            refine pk (v := .int .i64 y251) h255 rfl (rn_conv rfl rfl Try.underlying5 Try.underlying3 (IntWalk.i64_in _ (by omega))) fun a256 h256 => ?_; clear h255
            refine pk0 (v := v) h256 rfl fun a257 h257 => ?_; clear h256
            refine pk (v := .int .i64 ((l.length : Nat) : Int)) h257 rfl (rn_len rfl rfl Try.underlying50 (hs.below hB105)) fun a258 h258 => ?_; clear h257
            refine pk (v := .int .i64 ((l.length + 1 : Nat) : Int)) h258 rfl (rn_arith' rfl rfl rfl rfl rfl rfl (IntWalk.i64_in _ (by omega)) (by omega)) fun a259 h259 => ?_; clear h258
            obtain ⟨rm260, hrm261⟩ : ∃ z : Int, y251.tmod ((l.length + 1 : Nat) : Int) = z ∧ 0 ≤ z ∧ z ≤ l.length := ⟨_, rfl, by have := rem_in (i := y251) (j := ((l.length + 1 : Nat) : Int)) (by omega) (by omega); omega⟩
            refine pk (v := .int .i64 rm260) h259 rfl (rn_remA rfl rfl rfl (by omega) rfl hrm261.1) fun a262 h262 => ?_; clear h259
            refine pk0 (v := .int .i64 rm260) h262 rfl fun a263 h263 => ?_; clear h262
            refine pl_nil ?_
            refine co_then ?_
            refine co_seq ?_
            refine co_reg ?_
            refine pk0 (v := .int .i64 rm260) h263 rfl fun a264 h264 => ?_; clear h263
            refine pk0 (v := .int .i64 ((i : Nat) : Int)) h264 rfl fun a265 h265 => ?_; clear h264
            refine pk0 (v := .bool (rm260 == ((i : Nat) : Int))) h265 rfl fun a266 h266 => ?_; clear h265
            refine pk0 (v := .bool (rm260 == ((i : Nat) : Int))) h266 rfl fun a267 h267 => ?_; clear h266
            cases hc268 : (rm260 == ((i : Nat) : Int))
            ·
             rw [hc268] at h267
             have hp269 : ¬ (rm260 = ((i : Nat) : Int)) := by first | simpa using hc268 | simpa [and_assoc] using hc268
             clear hc268
             refine psk h267 rfl fun a270 h270 => ?_; clear h267
             refine psk h270 rfl fun a271 h271 => ?_; clear h270
             refine psk h271 rfl fun a272 h272 => ?_; clear h271
             refine psk h272 rfl fun a273 h273 => ?_; clear h272
             refine psk h273 rfl fun a274 h274 => ?_; clear h273
             refine psk h274 rfl fun a275 h275 => ?_; clear h274
             refine pk0 (v := .bool false) h275 rfl fun a276 h276 => ?_; clear h275
             refine pl_nil ?_
             refine co_then ?_
             refine co_false h276 rfl ?_
             refine wp_skip ?_
             refine co_blockN ?_
             refine co_then ?_
             refine co_reg ?_
             refine pk0 (v := .int .i64 ((k : Nat) : Int)) h276 rfl fun a277 h277 => ?_; clear h276
             refine pk (v := .int .i64 ((k + 1 : Nat) : Int)) h277 rfl (rn_arith' rfl rfl rfl rfl rfl rfl (IntWalk.i64_in _ (by omega)) (by omega)) fun a278 h278 => ?_; clear h277
             refine pk0 (v := .int .i64 ((k + 1 : Nat) : Int)) h278 rfl fun a279 h279 => ?_; clear h278
             refine pl_nil ?_
             refine co_then ?_
             refine ⟨(nl.length - (k + 1)), by omega, ?_⟩
             have hnj' := hnzi.skip
             exact ⟨k + 1, ps2, h279.sub ⟨rfl, rfl, rfl, rfl, rfl, rfl, rfl, rfl, trivial⟩, rfl, by omega, by first | exact hnz | exact hnj', hB105⟩
            ·
             rw [hc268] at h267
             have hp280 : rm260 = ((i : Nat) : Int) := by first | simpa using hc268 | simpa [and_assoc] using hc268
             clear hc268
             refine pk0 (v := nv) h267 rfl fun a281 h281 => ?_; clear h267
             refine pk0 (v := .int .i64 ((k : Nat) : Int)) h281 rfl fun a282 h282 => ?_; clear h281
             obtain ⟨y283, hy283⟩ : ∃ z, nl[k]? = some z := ⟨_, List.getElem?_eq_getElem (by first | omega | (simp; done) | (simp; omega))⟩
             refine pk (v := pt (blkOf nv) (offOf nv + k * 1)) h282 rfl (rn_index rfl rfl rfl Try.underlying62 Try.sizeOf9 (hn.below hB105) (by omega) (by first | omega | (simp; done) | (simp; omega))) fun a284 h284 => ?_; clear h282
             refine pk (v := .string y283) h284 rfl (rn_load1 rfl rfl Try.isAgg9 ((sl_at (hn.below hB105) hy283) 0 _ rfl)) fun a285 h285 => ?_; clear h284
             refine pk (v := .int .i64 ((y283.size : Nat) : Int)) h285 rfl (rn_lenStr rfl rfl Try.underlying9) fun a286 h286 => ?_; clear h285
             refine pk0 (v := .bool (decide (((y283.size : Nat) : Int) ≤ 255))) h286 rfl fun a287 h287 => ?_; clear h286
             refine pk0 (v := .bool (decide (((y283.size : Nat) : Int) ≤ 255))) h287 rfl fun a288 h288 => ?_; clear h287
             refine pl_nil ?_
             refine co_then ?_
             cases hc289 : (decide (((y283.size : Nat) : Int) ≤ 255))
             ·
              rw [hc289] at h288
              have hp290 : ¬ (((y283.size : Nat) : Int) ≤ 255) := of_decide_eq_false hc289
              clear hc289
              refine co_false h288 rfl ?_
              refine wp_skip ?_
              refine co_blockN ?_
              refine co_then ?_
              refine co_reg ?_
              refine pk0 (v := .int .i64 ((k : Nat) : Int)) h288 rfl fun a291 h291 => ?_; clear h288
              refine pk (v := .int .i64 ((k + 1 : Nat) : Int)) h291 rfl (rn_arith' rfl rfl rfl rfl rfl rfl (IntWalk.i64_in _ (by omega)) (by omega)) fun a292 h292 => ?_; clear h291
              refine pk0 (v := .int .i64 ((k + 1 : Nat) : Int)) h292 rfl fun a293 h293 => ?_; clear h292
              refine pl_nil ?_
              refine co_then ?_
              refine ⟨(nl.length - (k + 1)), by omega, ?_⟩
              have hnj' := hnzi.skip
              exact ⟨k + 1, ps2, h293.sub ⟨rfl, rfl, rfl, rfl, rfl, rfl, rfl, rfl, trivial⟩, rfl, by omega, by first | exact hnz | exact hnj', hB105⟩
             ·
              rw [hc289] at h288
              have hp294 : ((y283.size : Nat) : Int) ≤ 255 := of_decide_eq_true hc289
              clear hc289
              refine co_true h288 rfl ?_
              refine co_seq ?_
              refine dr_gen (fun x => Below w.heap.size w x) (by kernel_rfl) (fun w295 hg296 => ?_) (fun w295 hg296 => ?_)
              ·
               have hz297 := hg296.size
               have hB298 := hb_new hB105 hg296
               exact hB298
              have hz299 := hg296.size
              have hB300 := hb_new hB105 hg296
              refine dk0 0 (v := nv) h288 rfl rfl hB300 fun a301 h301 => ?_; clear h288
              refine dk0 1 (v := .int .i64 ((k : Nat) : Int)) h301 rfl rfl hB300 fun a302 h302 => ?_; clear h301
              refine dk 2 (v := pt (blkOf nv) (offOf nv + k * 1)) h302 rfl rfl hB300 (fun x hx => (rn_index rfl rfl rfl Try.underlying62 Try.sizeOf9 (hn.below hx) (by omega) (by first | omega | (simp; done) | (simp; omega)))) fun a303 h303 => ?_; clear h302
              refine dk 3 (v := .string y283) h303 rfl rfl hB300 (fun x hx => (rn_load1 rfl rfl Try.isAgg9 ((sl_at (hn.below hx) hy283) 0 _ rfl))) fun a304 h304 => ?_; clear h303
              refine dk 4 (v := .int .i64 ((y283.size : Nat) : Int)) h304 rfl rfl hB300 (fun x hx => (rn_lenStr rfl rfl Try.underlying9)) fun a305 h305 => ?_; clear h304
              refine dk 5 (v := .int .u8 ((y283.size : Nat) : Int)) h305 rfl rfl hB300 (fun x hx => (rn_conv rfl rfl Try.underlying3 Try.underlying5 (IntWalk.u8_in _ (by omega)))) fun a306 h306 => ?_; clear h305
              refine dk0 8 (v := nv) h306 rfl rfl hB300 fun a307 h307 => ?_; clear h306
              refine dk0 9 (v := .int .i64 ((k : Nat) : Int)) h307 rfl rfl hB300 fun a308 h308 => ?_; clear h307
              refine dk 10 (v := pt (blkOf nv) (offOf nv + k * 1)) h308 rfl rfl hB300 (fun x hx => (rn_index rfl rfl rfl Try.underlying62 Try.sizeOf9 (hn.below hx) (by omega) (by first | omega | (simp; done) | (simp; omega)))) fun a309 h309 => ?_; clear h308
              refine dk 11 (v := .string y283) h309 rfl rfl hB300 (fun x hx => (rn_load1 rfl rfl Try.isAgg9 ((sl_at (hn.below hx) hy283) 0 _ rfl))) fun a310 h310 => ?_; clear h309
              refine d1 6 h310 rfl rfl (op_new (v := fun N => .slice (some ⟨N, 0, none⟩) 1 1) (T := 5) (cs := #[.int .u8 ((y283.size : Nat) : Int)]) (by kernel_rfl) (by kernel_rfl) (by kernel_rfl)) ?_ ?_; clear h310
              ·
               rintro _ w312 ⟨N313, rfl, hN316, hz317, hk315, hg314⟩
               have hz318 := hg314.size
               have hB319 := hb_new hB300 hg314
               exact hB319
              rintro _ w312 a311 ⟨N313, rfl, hN316, hz317, hk315, hg314⟩ h311
              have hz318 := hg314.size
              try dsimp only at h311
              have hB319 := hb_new hB300 hg314
              refine dr_many [7] (by kernel_rfl) (by simp) ⟨?_, trivial⟩
              ·
               have hcs320 : (⟨[UInt8.ofNat y283.size].toArray⟩ : ByteArray).size = 1 := rfl
               refine dr_opVal (i := 7) (v := .string (⟨[UInt8.ofNat y283.size].toArray⟩ : ByteArray)) h311 rfl rfl rfl rfl (by kernel_rfl) rfl (rn_convOwn rfl rfl Try.underlying63 Try.underlying5 Try.underlying9 (row_byte hk315 (by omega))) hB319 (fun a321 h321 => ?_); clear h311
               have hcs322 : ((⟨[UInt8.ofNat y283.size].toArray⟩ : ByteArray) ++ y283).size = ((⟨[UInt8.ofNat y283.size].toArray⟩ : ByteArray) : ByteArray).size + y283.size := ByteArray.size_append
               refine dk 12 (v := .string ((⟨[UInt8.ofNat y283.size].toArray⟩ : ByteArray) ++ y283)) h321 rfl rfl hB319 (fun x hx => (rn_addStr rfl rfl rfl (by omega))) fun a323 h323 => ?_; clear h321
               refine dk0 13 (v := .string ((⟨[UInt8.ofNat y283.size].toArray⟩ : ByteArray) ++ y283)) h323 rfl rfl hB319 fun a324 h324 => ?_; clear h323
               refine dr_done (by kernel_rfl) ?_
               refine co_then ?_
               refine co_seq ?_
               refine co_reg ?_
               refine pk0 (v := .string ((⟨[UInt8.ofNat y283.size].toArray⟩ : ByteArray) ++ y283)) h324 rfl fun a325 h325 => ?_; clear h324
               refine pw h325 rfl (op_call (args := #[.string ((⟨[UInt8.ofNat y283.size].toArray⟩ : ByteArray) ++ y283)]) (R := fun res xw => ∃ us : List EvX, us.map EvX.d = stepsR ((⟨[UInt8.ofNat y283.size].toArray⟩ : ByteArray) ++ y283) ∧ xw.ownsRow w312.heap.size 60 10 res us.length (us.flatMap evE) ∧ (∀ z ∈ us, xw.ownsRow w312.heap.size 66 3 z.ov z.d.ops.length (z.d.ops.flatMap opE)) ∧ Below w312.heap.size w312 xw) rfl rfl rfl (by kernel_rfl) (by kernel_rfl) (Try.call22 _ _) (rcOf_any ((⟨[UInt8.ofNat y283.size].toArray⟩ : ByteArray) ++ y283) w312 (by omega)) (by rintro e x ⟨v, us, rfl, h⟩; exact ⟨_, rfl, us, h⟩)) ?_; clear h325
               rintro u328 w327 a326 ⟨us329, hm330, hr331, ho332, hb333⟩ h326
               have hz334 := hb333.size
               have hk335 := (NR.of (k := 0) ho332).ok hm330
               have hk336 := hk335.2.2
               refine pk (v := .int .i64 ((us329.length : Nat) : Int)) h326 rfl (rn_lenOwn rfl rfl Try.underlying50 hr331) fun a337 h337 => ?_; clear h326
               refine pk0 (v := .bool (((us329.length : Nat) : Int) == 0)) h337 rfl fun a338 h338 => ?_; clear h337
               refine pl_nil ?_
               refine co_then ?_
               have hB340 := hb_call hB319 hb333
               cases hc339 : (((us329.length : Nat) : Int) == 0)
               ·
                rw [hc339] at h338
                have hp341 : ¬ (((us329.length : Nat) : Int) = 0) := by first | simpa using hc339 | simpa [and_assoc] using hc339
                clear hc339
                refine co_false h338 rfl ?_
                refine wp_skip ?_
                refine co_blockN ?_
                refine co_then ?_
                refine co_reg ?_
                refine pk0 (v := .int .i64 ((k : Nat) : Int)) h338 rfl fun a342 h342 => ?_; clear h338
                refine pk (v := .int .i64 ((k + 1 : Nat) : Int)) h342 rfl (rn_arith' rfl rfl rfl rfl rfl rfl (IntWalk.i64_in _ (by omega)) (by omega)) fun a343 h343 => ?_; clear h342
                refine pk0 (v := .int .i64 ((k + 1 : Nat) : Int)) h343 rfl fun a344 h344 => ?_; clear h343
                refine pl_nil ?_
                refine co_then ?_
                refine ⟨(nl.length - (k + 1)), by omega, ?_⟩
                have hnj' := hnzi.skip
                exact ⟨k + 1, ps2, h344.sub ⟨rfl, rfl, rfl, rfl, rfl, rfl, rfl, rfl, trivial⟩, rfl, by omega, by first | exact hnz | exact hnj', hB340⟩
               ·
                rw [hc339] at h338
                have hp345 : ((us329.length : Nat) : Int) = 0 := by first | simpa using hc339 | simpa [and_assoc] using hc339
                clear hc339
                refine co_true h338 rfl ?_
                refine co_reg ?_
                refine pk0 (v := .string (plB ps2)) h338 rfl fun a346 h346 => ?_; clear h338
                refine pk0 (v := .string ((⟨[UInt8.ofNat y283.size].toArray⟩ : ByteArray) ++ y283)) h346 rfl fun a347 h347 => ?_; clear h346
                have hcs348 : ((plB ps2) ++ ((⟨[UInt8.ofNat y283.size].toArray⟩ : ByteArray) ++ y283)).size = (plB ps2 : ByteArray).size + ((⟨[UInt8.ofNat y283.size].toArray⟩ : ByteArray) ++ y283 : ByteArray).size := ByteArray.size_append
                refine pk (v := .string ((plB ps2) ++ ((⟨[UInt8.ofNat y283.size].toArray⟩ : ByteArray) ++ y283))) h347 rfl (rn_addStr rfl rfl rfl (by omega)) fun a349 h349 => ?_; clear h347
                refine pk0 (v := .string ((plB ps2) ++ ((⟨[UInt8.ofNat y283.size].toArray⟩ : ByteArray) ++ y283))) h349 rfl fun a350 h350 => ?_; clear h349
                refine pl_nil ?_
                refine co_blockN ?_
                refine co_then ?_
                refine co_reg ?_
                refine pk0 (v := .int .i64 ((k : Nat) : Int)) h350 rfl fun a351 h351 => ?_; clear h350
                refine pk (v := .int .i64 ((k + 1 : Nat) : Int)) h351 rfl (rn_arith' rfl rfl rfl rfl rfl rfl (IntWalk.i64_in _ (by omega)) (by omega)) fun a352 h352 => ?_; clear h351
                refine pk0 (v := .int .i64 ((k + 1 : Nat) : Int)) h352 rfl fun a353 h353 => ?_; clear h352
                refine pl_nil ?_
                refine co_then ?_
                refine ⟨(nl.length - (k + 1)), by omega, ?_⟩
                have hnj' := hnzi.noise (x := y283) (by omega) (nz_none hm330 (by omega) (by omega))
                exact ⟨k + 1, ps2 ++ [y283], h353.sub ⟨rfl, rfl, rfl, rfl, rfl, (slot_eq rfl (congrArg Value.string (by first | rfl | exact (plB_snoc _ _).symm))), rfl, rfl, trivial⟩, rfl, by omega, by first | exact hnz | exact hnj', hB340⟩
    ·
     rw [hc37] at h36
     have hp354 : allE (l.map EvX.d) ≠ 0 := by first | simpa using hc37 | simpa [and_assoc] using hc37
     clear hc37
     refine co_true h36 rfl ?_
     refine co_seq ?_
     refine co_reg ?_
     refine pw h36 rfl (op_call (args := #[]) (R := fun res xw => res = .bool true ∧ Below w27.heap.size w27 xw) rfl rfl rfl (by kernel_rfl) (by kernel_rfl) (Try.call17 _ _) (awake40_any w27) (by rintro e x ⟨rfl, h⟩; exact ⟨_, rfl, rfl, h⟩)) ?_; clear h36
     rintro _ w356 a355 ⟨rfl, hb357⟩ h355
     have hz358 := hb357.size
     refine pk0 (v := .bool true) h355 rfl fun a359 h359 => ?_; clear h355
     refine pl_nil ?_
     refine co_then ?_
     refine wp_ret ?_
     refine co_thenR ?_
     refine co_ret1 h359 rfl rfl ?_
     have hB360 := hb_call hB38 hb357
     exact ⟨rfl, hB360⟩
   ·
    rw [hc23] at h22
    have hp361 : ((nl.length : Nat) : Int) > 60 := of_decide_eq_true hc23
    clear hc23
    refine co_true h22 rfl ?_
    refine co_seq ?_
    refine co_reg ?_
    refine pw h22 rfl (op_call (args := #[]) (R := fun res xw => res = .bool true ∧ Below w4.heap.size w4 xw) rfl rfl rfl (by kernel_rfl) (by kernel_rfl) (Try.call17 _ _) (awake40_any w4) (by rintro e x ⟨rfl, h⟩; exact ⟨_, rfl, rfl, h⟩)) ?_; clear h22
    rintro _ w363 a362 ⟨rfl, hb364⟩ h362
    have hz365 := hb364.size
    refine pk0 (v := .bool true) h362 rfl fun a366 h366 => ?_; clear h362
    refine pl_nil ?_
    refine co_then ?_
    refine wp_ret ?_
    refine co_thenR ?_
    refine co_ret1 h366 rfl rfl ?_
    have hB367 := hb_call hB10 hb364
    exact ⟨rfl, hB367⟩
  ·
   rw [hc17] at h16
   have hp368 : ((l.length : Nat) : Int) > 60 := of_decide_eq_true hc17
   clear hc17
   refine psk h16 rfl fun a369 h369 => ?_; clear h16
   refine psk h369 rfl fun a370 h370 => ?_; clear h369
   refine psk h370 rfl fun a371 h371 => ?_; clear h370
   refine pk0 (v := .bool true) h371 rfl fun a372 h372 => ?_; clear h371
   refine pl_nil ?_
   refine co_then ?_
   refine co_true h372 rfl ?_
   refine co_seq ?_
   refine co_reg ?_
   refine pw h372 rfl (op_call (args := #[]) (R := fun res xw => res = .bool true ∧ Below w4.heap.size w4 xw) rfl rfl rfl (by kernel_rfl) (by kernel_rfl) (Try.call17 _ _) (awake40_any w4) (by rintro e x ⟨rfl, h⟩; exact ⟨_, rfl, rfl, h⟩)) ?_; clear h372
   rintro _ w374 a373 ⟨rfl, hb375⟩ h373
   have hz376 := hb375.size
   refine pk0 (v := .bool true) h373 rfl fun a377 h377 => ?_; clear h373
   refine pl_nil ?_
   refine co_then ?_
   refine wp_ret ?_
   refine co_thenR ?_
   refine co_ret1 h377 rfl rfl ?_
   have hB378 := hb_call hB10 hb375
   exact ⟨rfl, hB378⟩
 ·
  rw [hc9] at h8
  have hp379 : ptsE (l.take 400) > 20 := of_decide_eq_true hc9
  clear hc9
  refine psk h8 rfl fun a380 h380 => ?_; clear h8
  refine psk h380 rfl fun a381 h381 => ?_; clear h380
  refine psk h381 rfl fun a382 h382 => ?_; clear h381
  refine pk0 (v := .bool true) h382 rfl fun a383 h383 => ?_; clear h382
  refine pk0 (v := .bool true) h383 rfl fun a384 h384 => ?_; clear h383
  refine psk h384 rfl fun a385 h385 => ?_; clear h384
  refine psk h385 rfl fun a386 h386 => ?_; clear h385
  refine psk h386 rfl fun a387 h387 => ?_; clear h386
  refine pk0 (v := .bool true) h387 rfl fun a388 h388 => ?_; clear h387
  refine pl_nil ?_
  refine co_then ?_
  refine co_true h388 rfl ?_
  refine co_seq ?_
  refine co_reg ?_
  refine pw h388 rfl (op_call (args := #[]) (R := fun res xw => res = .bool true ∧ Below w4.heap.size w4 xw) rfl rfl rfl (by kernel_rfl) (by kernel_rfl) (Try.call17 _ _) (awake40_any w4) (by rintro e x ⟨rfl, h⟩; exact ⟨_, rfl, rfl, h⟩)) ?_; clear h388
  rintro _ w390 a389 ⟨rfl, hb391⟩ h389
  have hz392 := hb391.size
  refine pk0 (v := .bool true) h389 rfl fun a393 h393 => ?_; clear h389
  refine pl_nil ?_
  refine co_then ?_
  refine wp_ret ?_
  refine co_thenR ?_
  refine co_ret1 h393 rfl rfl ?_
  have hB394 := hb_call hB10 hb391
  exact ⟨rfl, hB394⟩
end Go.Proofs.Ytdgboikkgeioeaa

/- catenalaw40: ScriptNoise, as it is claimed. Conditions: texts of at most 1048576 bytes. -/
namespace Go.Proofs.Ytdgboikkgeioeaa
open Go.RowKit Go.ChangeShapes Go.WideShapes Go.Deep
set_option linter.unusedVariables false

section
variable {H : Type} {enc : TypeId × Value → H} {w : World} {base : Nat} {spare : Nat → Bool} {held : Bool}
theorem wf_u8N {b : Int} (h : (Lit.int .u8 b).wf = true) : 0 ≤ b ∧ b ≤ 255 := by
  unfold Lit.wf at h
  rw [Bool.and_eq_true, decide_eq_true_eq, decide_eq_true_eq] at h
  have e1 : IntKind.min .u8 = 0 := by decide
  have e2 : IntKind.max .u8 = 255 := by decide
  rw [e1, e2] at h
  exact h
theorem open_u8N {fuel : Nat} {cs : List Value} {x : DataW H × List MemPlace} (h : DataW.trod enc Try.prog w base spare held fuel 63 cs = some x) :
    ∃ (l : List Int) (v : Value), cs = [v] ∧ SliceOf (intE .u8) 1 w v l ∧ ∀ z ∈ l, 0 ≤ z ∧ z ≤ 255 :=
  open_rows_bulk (intE .u8) 1 (fun _ z => 0 ≤ z ∧ z ≤ 255) (fun _ _ _ _ h => h) Try.underlying63 (by kernel_rfl) (by omega) (fun n cs x h => by
    obtain ⟨a, e, _, hw⟩ := DataW.trod_int Try.underlying5 h
    exact ⟨a, e, wf_u8N hw⟩) h
end
theorem scriptNoise_c {m m2 : Nat} (v : Value) (l : List EvX) (nv : Value) (nl : List ByteArray) (av : Value) (al : List Int) (w : World) (s0 : SliceOf evE 10 w v l) (g0 : ∀ z ∈ l, EvM w m z) (s1 : SliceOf strE 1 w nv nl) (n1 : nl.length ≤ 8796093022208) (g1 : ∀ s ∈ nl, s.size ≤ 140737488351232)
    (s2 : SliceOf (intE .u8) 1 w av al) (g2 : ∀ z ∈ al, 0 ≤ z ∧ z ≤ 255) (b0 : m ≤ 1048576) (b2 : m2 ≤ 1048576) :
    Calls Try.prog 7 #[v, nv, av] w fun e w' => e = .returned (.bool true) ∧ Below w.heap.size w w' :=
  scriptNoise_any v l nv nl av al w s0 (fun z hz => (g0 z hz).ok b0) (fun hp hl z hz => by
    have h := ((ptsE_mem (l.take 400) 0 20 hp).2 z (by rw [List.take_of_length_le (by omega)]; exact hz)).1
    omega) s1 s2 g2
end Go.Proofs.Ytdgboikkgeioeaa
