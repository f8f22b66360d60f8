/- Put together: PrC, PrD, PrE. Conditions: as each says. -/
import Derived.Test.YthmljllgfigebaaLo2
import Derived.Test.YthmljllgfigebaaBytes
import Derived.Test.YthmljllgfigebaaPexVLo
/- catenalaw22: number, numbered. Conditions: none. -/
namespace Go.Proofs.Ythmljllgfigebaa
open Go.RowKit Go.PlainAid Go.Shelf
set_option linter.unusedVariables false
set_option linter.unusedSimpArgs false

set_option maxRecDepth 100000 in
set_option maxHeartbeats 3200000 in
theorem number_any (n : Int) (w : World) (h : 0 ≤ n ∧ n ≤ 60000) : Calls Try.prog 96 #[.int .i64 n] w fun e w' => e = .returned (.string (numT n)) ∧ Below w.heap.size w w' := by
  obtain ⟨k, rfl⟩ : ∃ k : Nat, n = (k : Int) := ⟨n.toNat, by omega⟩
  obtain ⟨W, hW⟩ : ∃ W, W = w.alloc (.cells #[.int .u8 ((k : Int) / 256), .int .u8 ((k : Int) % 256)] 5) := ⟨_, rfl⟩
  have hblk : Blk W w.heap.size 5 #[.int .u8 ((k : Int) / 256), .int .u8 ((k : Int) % 256)] := by rw [hW]; exact World.alloc_heap_new w _
  have hB : Below w.heap.size w W := by rw [hW]; exact (Below.refl _ w).alloc (Nat.le_refl _) _
  have hby : Bytes W w.heap.size 2 (fun j => if j = 0 then UInt8.ofNat (k / 256) else UInt8.ofNat (k % 256)) := by
    have e0 : ((UInt8.ofNat (k / 256)).toNat : Int) = (k : Int) / 256 := by
      rw [UInt8.toNat_ofNat']; show ((k / 256 % 256 : Nat) : Int) = _; omega
    have e1 : ((UInt8.ofNat (k % 256)).toNat : Int) = (k : Int) % 256 := by
      rw [UInt8.toNat_ofNat']; show ((k % 256 % 256 : Nat) : Int) = _; omega
    intro j hj
    refine ⟨?_, hblk.frozen j⟩
    have h2 : j = 0 ∨ j = 1 := by omega
    rcases h2 with rfl | rfl
    · show _ = some (Value.int .u8 (UInt8.ofNat (k / 256)).toNat)
      rw [e0]; exact hblk.cell rfl
    · show _ = some (Value.int .u8 (UInt8.ofNat (k % 256)).toNat)
      rw [e1]; exact hblk.cell rfl
  have hcv := hby.text (P := Try.prog) (src := 44) (dst := 9) (cap := 2) Try.underlying44 Try.underlying5 Try.underlying9
  have hnum : numT (k : Int) = ⟨((List.range 2).map (fun j => if j = 0 then UInt8.ofNat (k / 256) else UInt8.ofNat (k % 256))).toArray⟩ := by
    show numT (k : Int) = ⟨#[UInt8.ofNat (k / 256), UInt8.ofNat (k % 256)]⟩
    unfold numT; rw [Int.toNat_natCast]
  rw [← hnum] at hcv
  have HB := Lib.hid hB; clear hby hnum hblk hB
  rw [hW] at hcv HB
  clear hW
  go_enter Try.func96, Try.ntmps96
  go_wp2
  go_ret
  exact ⟨rfl, HB.out⟩

end Go.Proofs.Ythmljllgfigebaa

/- catenalaw22: numbered. Conditions: none. -/
namespace Go.Proofs.Ythmljllgfigebaa
open Go.RowKit Go.PlainAid
set_option linter.unusedVariables false
set_option linter.unusedSimpArgs false


theorem byteAt_255 (t : ByteArray) (i : Nat) : 0 ≤ byteAt t i ∧ byteAt t i ≤ 255 := by
  unfold byteAt
  have := (t.data[i]?.getD 0).toNat_lt
  omega

set_option maxRecDepth 100000 in
theorem numbered_any (t : ByteArray) (w : World)  :
    Calls Try.prog 98 #[.string t] w fun e w' => e = .returned (.int .i64 (valT t)) ∧ Below w.heap.size w w' := by
 have hb0 : 0 ≤ byteAt t 0 ∧ byteAt t 0 ≤ 255 := byteAt_255 t 0
 have hb1 : 0 ≤ byteAt t 1 ∧ byteAt t 1 ≤ 255 := byteAt_255 t 1
 have hB0 := Below.refl w.heap.size w
 by_cases ht : (t.size : Int) = 2
 · skip
   refine co_enter (n := 14) Try.func98 rfl rfl rfl [(0, .string t)] rfl (fun a h0 => ?_)
   refine co_seq ?_
   refine co_reg ?_
   refine pk0 (v := .int .i64 0) h0 rfl fun a1 h1 => ?_; clear h0
   refine pl_nil ?_
   refine co_then ?_
   refine co_seq ?_
   refine co_seq ?_
   refine co_reg ?_
   refine pk0 (v := .string t) h1 rfl fun a2 h2 => ?_; clear h1
   refine pk (v := .int .i64 ((t.size : Nat) : Int)) h2 rfl (rn_lenStr rfl rfl Try.underlying9) fun a3 h3 => ?_; clear h2
   refine pk0 (v := .bool (((t.size : Nat) : Int) != 2)) h3 rfl fun a4 h4 => ?_; clear h3
   refine pl_nil ?_
   refine co_then ?_
   have hc5 : (((t.size : Nat) : Int) != 2) = false := by first | (simp; done) | (simp; omega) | exact beq_false_of_ne (by omega) | exact beq_iff_eq.2 (by omega)
   rw [hc5] at h4; clear hc5
   refine co_false h4 rfl ?_
   refine wp_skip ?_
   refine co_then ?_
   refine co_seq ?_
   refine dr_eq (by kernel_rfl) (fun w6 hg7 => ?_)
   have hz8 := hg7.size
   refine dk0 0 (v := .string t) h4 rfl rfl rfl fun a9 h9 => ?_; clear h4
   refine dk 1 (v := .int .u8 (byteAt t 0)) h9 rfl rfl rfl (fun x hx => by subst hx; exact (rn_indexStr rfl rfl rfl Try.underlying9 (by omega) (by omega))) fun a10 h10 => ?_; clear h9
   refine dk 2 (v := .int .i64 (byteAt t 0)) h10 rfl rfl rfl (fun x hx => by subst hx; exact (rn_conv rfl rfl Try.underlying5 Try.underlying3 (IntWalk.i64_in _ (by omega)))) fun a11 h11 => ?_; clear h10
   refine dk 3 (v := .int .i64 (256 * (byteAt t 0))) h11 rfl rfl rfl (fun x hx => by subst hx; exact (rn_arith rfl rfl rfl rfl rfl rfl (IntWalk.i64_in _ (by omega)))) fun a12 h12 => ?_; clear h11
   refine dk0 4 (v := .string t) h12 rfl rfl rfl fun a13 h13 => ?_; clear h12
   refine dk 5 (v := .int .u8 (byteAt t 1)) h13 rfl rfl rfl (fun x hx => by subst hx; exact (rn_indexStr rfl rfl rfl Try.underlying9 (by omega) (by omega))) fun a14 h14 => ?_; clear h13
   refine dk 6 (v := .int .i64 (byteAt t 1)) h14 rfl rfl rfl (fun x hx => by subst hx; exact (rn_conv rfl rfl Try.underlying5 Try.underlying3 (IntWalk.i64_in _ (by omega)))) fun a15 h15 => ?_; clear h14
   refine dk 7 (v := .int .i64 ((256 * (byteAt t 0)) + (byteAt t 1))) h15 rfl rfl rfl (fun x hx => by subst hx; exact (rn_arith rfl rfl rfl rfl rfl rfl (IntWalk.i64_in _ (by omega)))) fun a16 h16 => ?_; clear h15
   refine dk0 8 (v := .int .i64 ((256 * (byteAt t 0)) + (byteAt t 1))) h16 rfl rfl rfl fun a17 h17 => ?_; clear h16
   refine dr_done (by kernel_rfl) ?_
   refine co_then ?_
   refine wp_ret ?_
   refine co_ret1 h17 rfl rfl ?_
   have hB18 := hb_new hB0 hg7
   exact ⟨ret_int (by unfold valT; first | (rw [if_pos (by omega)]; done) | (rw [if_pos (by omega)]; omega) | (rw [if_neg (by omega)]; done) | (rw [if_neg (by omega)]; omega)), hB18⟩
 · skip
   refine co_enter (n := 14) Try.func98 rfl rfl rfl [(0, .string t)] rfl (fun a h0 => ?_)
   refine co_seq ?_
   refine co_reg ?_
   refine pk0 (v := .int .i64 0) h0 rfl fun a19 h19 => ?_; clear h0
   refine pl_nil ?_
   refine co_then ?_
   refine co_seq ?_
   refine co_seq ?_
   refine co_reg ?_
   refine pk0 (v := .string t) h19 rfl fun a20 h20 => ?_; clear h19
   refine pk (v := .int .i64 ((t.size : Nat) : Int)) h20 rfl (rn_lenStr rfl rfl Try.underlying9) fun a21 h21 => ?_; clear h20
   refine pk0 (v := .bool (((t.size : Nat) : Int) != 2)) h21 rfl fun a22 h22 => ?_; clear h21
   refine pl_nil ?_
   refine co_then ?_
   have hc23 : (((t.size : Nat) : Int) != 2) = true := by first | (simp; done) | (simp; omega) | exact beq_false_of_ne (by omega) | exact beq_iff_eq.2 (by omega)
   rw [hc23] at h22; clear hc23
   refine co_true h22 rfl ?_
   refine co_seq ?_
   refine co_reg ?_
   refine pk0 (v := .int .i64 (-1)) h22 rfl fun a24 h24 => ?_; clear h22
   refine pl_nil ?_
   refine co_then ?_
   refine wp_ret ?_
   refine co_thenR ?_
   refine co_ret1 h24 rfl rfl ?_
   exact ⟨ret_int (by unfold valT; first | (rw [if_pos (by omega)]; done) | (rw [if_pos (by omega)]; omega) | (rw [if_neg (by omega)]; done) | (rw [if_neg (by omega)]; omega)), hB0⟩
end Go.Proofs.Ythmljllgfigebaa

/- catenalaw22: both. Conditions: none. -/
namespace Go.Proofs.Ythmljllgfigebaa
open Go.RowKit Go.PlainAid
set_option linter.unusedVariables false
set_option linter.unusedSimpArgs false


def pr0 : PrT := ⟨newLn 1, newLn 1, 1, 1, [], [], 0, 0, 0, 0⟩

set_option maxRecDepth 100000 in
theorem both_any  (w : World)  :
    Calls Try.prog 48 #[] w fun e w' => ∃ (N : Nat) (S' : Nat → Prop), e = .returned (pt N 0) ∧ PrO S' w' N pr0 ∧ (∀ q, S' q → w.heap.size ≤ q) ∧ Below w.heap.size w w' := by
 have hB0 := Below.refl w.heap.size w
 refine co_enter (n := 33) Try.func48 rfl rfl rfl [] rfl (fun a h0 => ?_)
 refine co_seq ?_
 refine co_reg ?_
 refine pk0 (v := .pointer none) h0 rfl fun a1 h1 => ?_; clear h0
 refine pl_nil ?_
 refine co_then ?_
 refine co_seq ?_
 refine co_reg ?_
 refine pw h1 rfl (op_call (args := #[.int .i64 1]) (R := fun res xw => ∃ (N : Nat) (S : Nat → Prop), res = .tuple #[pt N 0, .int .i64 0] ∧ LkP S xw N (newLn 1) ∧ (∀ q, S q → w.heap.size ≤ q) ∧ Below w.heap.size w xw) rfl rfl rfl (by kernel_rfl) (by kernel_rfl) (Try.call32 _ _) (nPNew 1 w (by omega)) (by rintro e x ⟨N, S, rfl, h⟩; exact ⟨_, rfl, N, S, rfl, h⟩)) ?_; clear h1
 rintro _ w3 a2 ⟨N4, S5, rfl, hO6, hlo7, hb8⟩ h2
 have hz10 := hb8.size
 have hlo11 : ∀ q, S5 q → w.heap.size ≤ q := fun q hq => by have := hlo7 q hq; omega
 refine pk0 (v := .tuple #[pt N4 0, .int .i64 0]) h2 rfl fun a12 h12 => ?_; clear h2
 refine pk0 (v := pt N4 0) h12 rfl fun a13 h13 => ?_; clear h12
 refine pk0 (v := .int .i64 0) h13 rfl fun a14 h14 => ?_; clear h13
 refine pk0 (v := pt N4 0) h14 rfl fun a15 h15 => ?_; clear h14
 refine pk0 (v := .int .i64 0) h15 rfl fun a16 h16 => ?_; clear h15
 refine pl_nil ?_
 refine co_then ?_
 refine co_seq ?_
 refine co_reg ?_
 have ho19 := LkP.ofS hO6
 refine pw h16 rfl (op_call (args := #[.int .i64 1]) (R := fun res xw => ∃ (N : Nat) (S : Nat → Prop), res = .tuple #[pt N 0, .int .i64 0] ∧ LkP S xw N (newLn 1) ∧ (∀ q, S q → w3.heap.size ≤ q) ∧ Below w3.heap.size w3 xw) rfl rfl rfl (by kernel_rfl) (by kernel_rfl) (Try.call32 _ _) (nPNew 1 w3 (by omega)) (by rintro e x ⟨N, S, rfl, h⟩; exact ⟨_, rfl, N, S, rfl, h⟩)) ?_; clear h16
 rintro _ w18 a17 ⟨N20, S21, rfl, hO22, hlo23, hb24⟩ h17
 have hz26 := hb24.size
 have ho27 := LkP.ofS hO6
 have hlo28 : ∀ q, S21 q → w.heap.size ≤ q := fun q hq => by have := hlo23 q hq; omega
 refine pk0 (v := .tuple #[pt N20 0, .int .i64 0]) h17 rfl fun a29 h29 => ?_; clear h17
 refine pk0 (v := pt N20 0) h29 rfl fun a30 h30 => ?_; clear h29
 refine pk0 (v := .int .i64 0) h30 rfl fun a31 h31 => ?_; clear h30
 refine pk0 (v := pt N20 0) h31 rfl fun a32 h32 => ?_; clear h31
 refine pk0 (v := .int .i64 0) h32 rfl fun a33 h33 => ?_; clear h32
 refine pl_nil ?_
 refine co_then ?_
 refine co_seq ?_
 refine co_seq ?_
 refine co_reg ?_
 refine pk0 (v := .int .i64 0) h33 rfl fun a34 h34 => ?_; clear h33
 refine pk0 (v := .bool ((0 : Int) != 0)) h34 rfl fun a35 h35 => ?_; clear h34
 refine pk0 (v := .bool ((0 : Int) != 0)) h35 rfl fun a36 h36 => ?_; clear h35
 have hc37 : ((0 : Int) != 0) = false := by first | (simp; done) | (simp; omega) | exact beq_false_of_ne (by omega) | exact beq_iff_eq.2 (by omega)
 rw [hc37] at h36; clear hc37
 refine pk0 (v := .int .i64 0) h36 rfl fun a38 h38 => ?_; clear h36
 refine pk0 (v := .bool ((0 : Int) != 0)) h38 rfl fun a39 h39 => ?_; clear h38
 refine pk0 (v := .bool ((0 : Int) != 0)) h39 rfl fun a40 h40 => ?_; clear h39
 refine pk0 (v := .bool ((0 : Int) != 0)) h40 rfl fun a41 h41 => ?_; clear h40
 have hc42 : ((0 : Int) != 0) = false := by first | (simp; done) | (simp; omega) | exact beq_false_of_ne (by omega) | exact beq_iff_eq.2 (by omega)
 rw [hc42] at h41; clear hc42
 refine pk0 (v := pt N4 0) h41 rfl fun a43 h43 => ?_; clear h41
 refine pk0 (v := .bool false) h43 rfl fun a44 h44 => ?_; clear h43
 refine pk0 (v := .bool false) h44 rfl fun a45 h45 => ?_; clear h44
 refine pk0 (v := .bool false) h45 rfl fun a46 h46 => ?_; clear h45
 refine pk0 (v := pt N20 0) h46 rfl fun a47 h47 => ?_; clear h46
 refine pk0 (v := .bool false) h47 rfl fun a48 h48 => ?_; clear h47
 refine pk0 (v := .bool false) h48 rfl fun a49 h49 => ?_; clear h48
 refine pl_nil ?_
 refine co_then ?_
 refine co_false h49 rfl ?_
 refine wp_skip ?_
 refine co_then ?_
 refine co_seq ?_
 refine co_reg ?_
 refine pk0 (v := pt N4 0) h49 rfl fun a50 h50 => ?_; clear h49
 refine pk0 (v := pt N20 0) h50 rfl fun a51 h51 => ?_; clear h50
 refine pk0 (v := .agg #[pt N4 0, pt N20 0]) h51 rfl fun a52 h52 => ?_; clear h51
 refine pk0 (v := .agg #[.int .i64 1, .int .i64 1]) h52 rfl fun a53 h53 => ?_; clear h52
 refine pk0 (v := .agg #[pt N4 0, pt N20 0, .int .i64 1, .int .i64 1, .slice none 0 0, .slice none 0 0, .int .i64 0, .int .i64 0, .int .i64 0, .int .i64 0, .bool true]) h53 rfl fun a54 h54 => ?_; clear h53
 refine pw h54 rfl (op_new (v := fun N => pt N 0) (T := 95) (cs := #[pt N4 0, pt N20 0, .int .i64 1, .int .i64 1, .slice none 0 0, .slice none 0 0, .int .i64 0, .int .i64 0, .int .i64 0, .int .i64 0, .bool true]) (by kernel_rfl) (by kernel_rfl) (by kernel_rfl)) ?_; clear h54
 rintro _ w56 a55 ⟨N57, rfl, hN60, hz61, hk59, hg58⟩ h55
 have hz62 := hg58.size
 have hO64 := LkP.gr hO6 (below_grown hb24) (fun k e => by cases e)
 have ho63 := off_new (LkP.ofS hO64) hN60
 have ho65 := off_new (LkP.ofS hO22) hN60
 try dsimp only at h55
 refine pk0 (v := pt N57 0) h55 rfl fun a66 h66 => ?_; clear h55
 refine pl_nil ?_
 refine co_then ?_
 refine wp_ret ?_
 refine co_ret1 h66 rfl rfl ?_
 have hO67 := LkP.gr hO64 hg58 (fun k e => by cases e)
 have hO68 := LkP.gr hO22 hg58 (fun k e => by cases e)
 have hB69 := hb_call hB0 hb8
 have hB70 := hb_call hB69 hb24
 have hB71 := hb_new hB70 hg58
 obtain ⟨S9, h1, h2⟩ := PrO.fin (S := fun q => w.heap.size ≤ q) (w := w) (P := pr0) (wv := .slice none 0 0) (tv := .slice none 0 0) (B1 := 0) (B2 := 0) hk59 hO67 hO68 (World.ownsRow_nil _ _ _ _) (World.ownsRow_nil _ _ _ _) (fun q h1 h2 => by have e1 := ho19 q h1; have e2 := hlo23 q h2; omega) ho63 ho65 offR_nil offR_nil offR_nil offR_nil (.inr (by omega)) (fun q h => .inr (hlo11 q h)) (fun q h => .inr (hlo28 q h)) (fun i hi => by simp [Value.ownBlock] at hi) (fun i hi => by simp [Value.ownBlock] at hi) (But.of_below hB71)
 exact ⟨_, S9, rfl, h1, (fun q hq => by rcases h2.sub q hq with k | k <;> exact k), hB71⟩
end Go.Proofs.Ythmljllgfigebaa
