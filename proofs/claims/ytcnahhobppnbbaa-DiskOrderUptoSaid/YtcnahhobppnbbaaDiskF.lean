/- catenalaw11: awake, DiskZero. Conditions: none. -/
import Derived.Test.YtcnahhobppnbbaaDiskE
namespace Go.Proofs.Ytcnahhobppnbbaa
open Go.RowKit Go.PlainAid
set_option linter.unusedVariables false

set_option maxRecDepth 100000 in
theorem awake11  (w : World)  :
    Calls Try.prog 20 #[] w fun e w' => e = .returned (.bool true) ∧ Below w.heap.size w w' := by
 have hB0 := Below.refl w.heap.size w
 refine co_enter (n := 36) Try.func20 rfl rfl rfl [] rfl (fun a h0 => ?_)
 refine co_seq ?_
 refine co_reg ?_
 refine pk0 (v := .bool false) h0 rfl fun a1 h1 => ?_; clear h0
 refine pl_nil ?_
 refine co_then ?_
 refine co_seq ?_
 refine co_reg ?_
 refine pw h1 rfl (op_call (args := #[]) (R := fun res xw => ∃ N, res = pt N 0 ∧ DObj w.heap.size xw N 0 s0D ∧ Below w.heap.size w xw) rfl rfl rfl (by kernel_rfl) (by kernel_rfl) (Try.call15 _ _) (tNew w.heap.size w (by omega)) (by rintro e x ⟨N, rfl, h1, h2⟩; exact ⟨_, rfl, N, rfl, h1, h2⟩)) ?_; clear h1
 rintro _ w3 a2 ⟨N6, rfl, hd4, hb7⟩ h2
 have hz8 := hb7.size
 refine pk0 (v := pt N6 0) h2 rfl fun a9 h9 => ?_; clear h2
 refine pl_nil ?_
 refine co_then ?_
 refine co_seq ?_
 refine co_reg ?_
 refine pk0 (v := pt N6 0) h9 rfl fun a10 h10 => ?_; clear h9
 have hB15 := hb_call hB0 hb7
 refine pw h10 rfl (op_call (args := #[pt N6 0, .int .i64 1, .string (⟨#[97, 98]⟩)]) (R := fun res xw => res = .int .i64 (wrE 1) ∧ DObj w.heap.size xw N6 (0 + 1) (wrS s0D 1 (⟨#[97, 98]⟩)) ∧ ButD w.heap.size w3 xw) rfl rfl rfl (by kernel_rfl) (by kernel_rfl) (Try.call21 _ _) (tWrite w3 1 (⟨#[97, 98]⟩) hd4 (s0_I.hsz (by omega) 1 (by decide)) (s0_I.hpl (by omega))) (by rintro e x ⟨rfl, h1, h2⟩; exact ⟨_, rfl, rfl, h1, h2⟩)) ?_; clear h10
 rintro _ w12 a11 ⟨rfl, hd13, hx14⟩ h11
 have hz17 := hx14.size
 have hB16 := (hbD hB15 hx14)
 have hz18 := hB16.size
 refine pl_nil ?_
 refine co_then ?_
 refine co_seq ?_
 refine co_reg ?_
 refine pk0 (v := pt N6 0) h11 rfl fun a19 h19 => ?_; clear h11
 have hpl24 := (s0_I.write 1 (⟨#[97, 98]⟩) (by decide)).pl
 refine pw h19 rfl (op_call (args := #[pt N6 0]) (R := fun res xw => res = .int .i64 (sumP (wrS s0D 1 (⟨#[97, 98]⟩)).ps) ∧ DObj w.heap.size xw N6 (0 + 1 + (wrS s0D 1 (⟨#[97, 98]⟩)).ps.length) (synS (wrS s0D 1 (⟨#[97, 98]⟩))) ∧ ButD w.heap.size w12 xw) rfl rfl rfl (by kernel_rfl) (by kernel_rfl) (Try.call22 _ _) (tSync w12 hd13 ((s0_I.write 1 (⟨#[97, 98]⟩) (by decide)).hsb (by omega))) (by rintro e x ⟨rfl, h1, h2⟩; exact ⟨_, rfl, rfl, h1, h2⟩)) ?_; clear h19
 rintro _ w21 a20 ⟨rfl, hd22, hx23⟩ h20
 have hz26 := hx23.size
 have hB25 := (hbD hB16 hx23)
 have hz27 := hB25.size
 refine pk0 (v := .int .i64 (sumP (wrS s0D 1 (⟨#[97, 98]⟩)).ps)) h20 rfl fun a28 h28 => ?_; clear h20
 refine pl_nil ?_
 refine co_then ?_
 refine co_seq ?_
 refine co_reg ?_
 refine pk0 (v := pt N6 0) h28 rfl fun a29 h29 => ?_; clear h28
 refine pw h29 rfl (op_call (args := #[pt N6 0, .int .i64 2, .string (⟨#[99, 100]⟩)]) (R := fun res xw => res = .int .i64 (wrE 2) ∧ DObj w.heap.size xw N6 (0 + 1 + (wrS s0D 1 (⟨#[97, 98]⟩)).ps.length + 1) (wrS (synS (wrS s0D 1 (⟨#[97, 98]⟩))) 2 (⟨#[99, 100]⟩)) ∧ ButD w.heap.size w21 xw) rfl rfl rfl (by kernel_rfl) (by kernel_rfl) (Try.call21 _ _) (tWrite w21 2 (⟨#[99, 100]⟩) hd22 ((s0_I.write 1 (⟨#[97, 98]⟩) (by decide)).sync.1.hsz (by omega) 2 (by decide)) ((s0_I.write 1 (⟨#[97, 98]⟩) (by decide)).sync.1.hpl (by omega))) (by rintro e x ⟨rfl, h1, h2⟩; exact ⟨_, rfl, rfl, h1, h2⟩)) ?_; clear h29
 rintro _ w31 a30 ⟨rfl, hd32, hx33⟩ h30
 have hz35 := hx33.size
 have hB34 := (hbD hB25 hx33)
 have hz36 := hB34.size
 refine pl_nil ?_
 refine co_then ?_
 refine co_seq ?_
 refine co_reg ?_
 refine pk0 (v := pt N6 0) h30 rfl fun a37 h37 => ?_; clear h30
 refine pw h37 rfl (op_call (args := #[pt N6 0, .int .i64 1, .string (⟨#[101, 102]⟩)]) (R := fun res xw => res = .int .i64 (wrE 1) ∧ DObj w.heap.size xw N6 (0 + 1 + (wrS s0D 1 (⟨#[97, 98]⟩)).ps.length + 1 + 1) (wrS (wrS (synS (wrS s0D 1 (⟨#[97, 98]⟩))) 2 (⟨#[99, 100]⟩)) 1 (⟨#[101, 102]⟩)) ∧ ButD w.heap.size w31 xw) rfl rfl rfl (by kernel_rfl) (by kernel_rfl) (Try.call21 _ _) (tWrite w31 1 (⟨#[101, 102]⟩) hd32 (((s0_I.write 1 (⟨#[97, 98]⟩) (by decide)).sync.1.write 2 (⟨#[99, 100]⟩) (by decide)).hsz (by omega) 1 (by decide)) (((s0_I.write 1 (⟨#[97, 98]⟩) (by decide)).sync.1.write 2 (⟨#[99, 100]⟩) (by decide)).hpl (by omega))) (by rintro e x ⟨rfl, h1, h2⟩; exact ⟨_, rfl, rfl, h1, h2⟩)) ?_; clear h37
 rintro _ w39 a38 ⟨rfl, hd40, hx41⟩ h38
 have hz43 := hx41.size
 have hB42 := (hbD hB34 hx41)
 have hz44 := hB42.size
 refine pl_nil ?_
 refine co_then ?_
 refine co_seq ?_
 refine co_reg ?_
 refine pk0 (v := pt N6 0) h38 rfl fun a45 h45 => ?_; clear h38
 have hpl50 := (((s0_I.write 1 (⟨#[97, 98]⟩) (by decide)).sync.1.write 2 (⟨#[99, 100]⟩) (by decide)).write 1 (⟨#[101, 102]⟩) (by decide)).pl
 refine pw h45 rfl (op_call (args := #[pt N6 0, .int .i64 3]) (R := fun res xw => res = .tuple #[] ∧ DObj w.heap.size xw N6 (2 * (0 + 1 + (wrS s0D 1 (⟨#[97, 98]⟩)).ps.length + 1 + 1) + 2 * (wrS (wrS (synS (wrS s0D 1 (⟨#[97, 98]⟩))) 2 (⟨#[99, 100]⟩)) 1 (⟨#[101, 102]⟩)).ps.length) (crS (wrS (wrS (synS (wrS s0D 1 (⟨#[97, 98]⟩))) 2 (⟨#[99, 100]⟩)) 1 (⟨#[101, 102]⟩)) 3) ∧ ButD w.heap.size w39 xw) rfl rfl rfl (by kernel_rfl) (by kernel_rfl) (Try.call25 _ _) (tCrash w39 3 hd40 (by omega) ((((s0_I.write 1 (⟨#[97, 98]⟩) (by decide)).sync.1.write 2 (⟨#[99, 100]⟩) (by decide)).write 1 (⟨#[101, 102]⟩) (by decide)).hpl (by omega)) (by decide) (by decide) ((((s0_I.write 1 (⟨#[97, 98]⟩) (by decide)).sync.1.write 2 (⟨#[99, 100]⟩) (by decide)).write 1 (⟨#[101, 102]⟩) (by decide)).hcr (by omega) (by decide)) (((s0_I.write 1 (⟨#[97, 98]⟩) (by decide)).sync.1.write 2 (⟨#[99, 100]⟩) (by decide)).write 1 (⟨#[101, 102]⟩) (by decide)).hfin) (by rintro e x ⟨rfl, h1, h2⟩; exact ⟨_, rfl, rfl, h1, h2⟩)) ?_; clear h45
 rintro _ w47 a46 ⟨rfl, hd48, hx49⟩ h46
 have hz52 := hx49.size
 have hB51 := (hbD hB42 hx49)
 have hz53 := hB51.size
 refine pl_nil ?_
 refine co_then ?_
 refine co_seq ?_
 refine co_reg ?_
 refine pk0 (v := .int .i64 (sumP (wrS s0D 1 (⟨#[97, 98]⟩)).ps)) h46 rfl fun a54 h54 => ?_; clear h46
 refine pk0 (v := .bool (sumP (wrS s0D 1 (⟨#[97, 98]⟩)).ps == 2)) h54 rfl fun a55 h55 => ?_; clear h54
 refine pk0 (v := .bool (sumP (wrS s0D 1 (⟨#[97, 98]⟩)).ps == 2)) h55 rfl fun a56 h56 => ?_; clear h55
 have hc57 : (sumP (wrS s0D 1 (⟨#[97, 98]⟩)).ps == 2) = true := by decide
 rw [hc57] at h56; clear hc57
 refine pk0 (v := pt N6 0) h56 rfl fun a58 h58 => ?_; clear h56
 refine pw h58 rfl (op_call (args := #[pt N6 0, .int .i64 1]) (R := fun res xw => res = .string (datF (crS (wrS (wrS (synS (wrS s0D 1 (⟨#[97, 98]⟩))) 2 (⟨#[99, 100]⟩)) 1 (⟨#[101, 102]⟩)) 3).fm 1) ∧ DObj w.heap.size xw N6 (2 * (0 + 1 + (wrS s0D 1 (⟨#[97, 98]⟩)).ps.length + 1 + 1) + 2 * (wrS (wrS (synS (wrS s0D 1 (⟨#[97, 98]⟩))) 2 (⟨#[99, 100]⟩)) 1 (⟨#[101, 102]⟩)).ps.length) (crS (wrS (wrS (synS (wrS s0D 1 (⟨#[97, 98]⟩))) 2 (⟨#[99, 100]⟩)) 1 (⟨#[101, 102]⟩)) 3) ∧ ButD w.heap.size w47 xw) rfl rfl rfl (by kernel_rfl) (by kernel_rfl) (Try.call19 _ _) (tData w47 1 hd48) (by rintro e x ⟨rfl, h1, h2⟩; exact ⟨_, rfl, rfl, h1, h2⟩)) ?_; clear h58
 rintro _ w60 a59 ⟨rfl, hd61, hx62⟩ h59
 have hz64 := hx62.size
 have hB63 := (hbD hB51 hx62)
 have hz65 := hB63.size
 refine pk0 (v := .bool ((datF (crS (wrS (wrS (synS (wrS s0D 1 (⟨#[97, 98]⟩))) 2 (⟨#[99, 100]⟩)) 1 (⟨#[101, 102]⟩)) 3).fm 1 : ByteArray).toList == (⟨#[97, 98, 101]⟩ : ByteArray).toList)) h59 rfl fun a66 h66 => ?_; clear h59
 refine pk0 (v := .bool ((datF (crS (wrS (wrS (synS (wrS s0D 1 (⟨#[97, 98]⟩))) 2 (⟨#[99, 100]⟩)) 1 (⟨#[101, 102]⟩)) 3).fm 1 : ByteArray).toList == (⟨#[97, 98, 101]⟩ : ByteArray).toList)) h66 rfl fun a67 h67 => ?_; clear h66
 refine pk0 (v := .bool ((datF (crS (wrS (wrS (synS (wrS s0D 1 (⟨#[97, 98]⟩))) 2 (⟨#[99, 100]⟩)) 1 (⟨#[101, 102]⟩)) 3).fm 1 : ByteArray).toList == (⟨#[97, 98, 101]⟩ : ByteArray).toList)) h67 rfl fun a68 h68 => ?_; clear h67
 have hc69 : ((datF (crS (wrS (wrS (synS (wrS s0D 1 (⟨#[97, 98]⟩))) 2 (⟨#[99, 100]⟩)) 1 (⟨#[101, 102]⟩)) 3).fm 1 : ByteArray).toList == (⟨#[97, 98, 101]⟩ : ByteArray).toList) = true := by rw [show ((datF (crS (wrS (wrS (synS (wrS s0D 1 (⟨#[97, 98]⟩))) 2 (⟨#[99, 100]⟩)) 1 (⟨#[101, 102]⟩)) 3).fm 1 : ByteArray)) = (⟨#[97, 98, 101]⟩ : ByteArray) from rfl]; simp
 rw [hc69] at h68; clear hc69
 refine pk0 (v := pt N6 0) h68 rfl fun a70 h70 => ?_; clear h68
 refine pw h70 rfl (op_call (args := #[pt N6 0, .int .i64 2]) (R := fun res xw => res = .string (datF (crS (wrS (wrS (synS (wrS s0D 1 (⟨#[97, 98]⟩))) 2 (⟨#[99, 100]⟩)) 1 (⟨#[101, 102]⟩)) 3).fm 2) ∧ DObj w.heap.size xw N6 (2 * (0 + 1 + (wrS s0D 1 (⟨#[97, 98]⟩)).ps.length + 1 + 1) + 2 * (wrS (wrS (synS (wrS s0D 1 (⟨#[97, 98]⟩))) 2 (⟨#[99, 100]⟩)) 1 (⟨#[101, 102]⟩)).ps.length) (crS (wrS (wrS (synS (wrS s0D 1 (⟨#[97, 98]⟩))) 2 (⟨#[99, 100]⟩)) 1 (⟨#[101, 102]⟩)) 3) ∧ ButD w.heap.size w60 xw) rfl rfl rfl (by kernel_rfl) (by kernel_rfl) (Try.call19 _ _) (tData w60 2 hd61) (by rintro e x ⟨rfl, h1, h2⟩; exact ⟨_, rfl, rfl, h1, h2⟩)) ?_; clear h70
 rintro _ w72 a71 ⟨rfl, hd73, hx74⟩ h71
 have hz76 := hx74.size
 have hB75 := (hbD hB63 hx74)
 have hz77 := hB75.size
 refine pk0 (v := .bool ((datF (crS (wrS (wrS (synS (wrS s0D 1 (⟨#[97, 98]⟩))) 2 (⟨#[99, 100]⟩)) 1 (⟨#[101, 102]⟩)) 3).fm 2 : ByteArray).toList == (⟨#[99, 100]⟩ : ByteArray).toList)) h71 rfl fun a78 h78 => ?_; clear h71
 refine pk0 (v := .bool ((datF (crS (wrS (wrS (synS (wrS s0D 1 (⟨#[97, 98]⟩))) 2 (⟨#[99, 100]⟩)) 1 (⟨#[101, 102]⟩)) 3).fm 2 : ByteArray).toList == (⟨#[99, 100]⟩ : ByteArray).toList)) h78 rfl fun a79 h79 => ?_; clear h78
 refine pk0 (v := .bool ((datF (crS (wrS (wrS (synS (wrS s0D 1 (⟨#[97, 98]⟩))) 2 (⟨#[99, 100]⟩)) 1 (⟨#[101, 102]⟩)) 3).fm 2 : ByteArray).toList == (⟨#[99, 100]⟩ : ByteArray).toList)) h79 rfl fun a80 h80 => ?_; clear h79
 have hc81 : ((datF (crS (wrS (wrS (synS (wrS s0D 1 (⟨#[97, 98]⟩))) 2 (⟨#[99, 100]⟩)) 1 (⟨#[101, 102]⟩)) 3).fm 2 : ByteArray).toList == (⟨#[99, 100]⟩ : ByteArray).toList) = true := by rw [show ((datF (crS (wrS (wrS (synS (wrS s0D 1 (⟨#[97, 98]⟩))) 2 (⟨#[99, 100]⟩)) 1 (⟨#[101, 102]⟩)) 3).fm 2 : ByteArray)) = (⟨#[99, 100]⟩ : ByteArray) from rfl]; simp
 rw [hc81] at h80; clear hc81
 refine pk0 (v := pt N6 0) h80 rfl fun a82 h82 => ?_; clear h80
 refine pw h82 rfl (op_call (args := #[pt N6 0]) (R := fun res xw => res = .int .i64 ((crS (wrS (wrS (synS (wrS s0D 1 (⟨#[97, 98]⟩))) 2 (⟨#[99, 100]⟩)) 1 (⟨#[101, 102]⟩)) 3).ser) ∧ DObj w.heap.size xw N6 (2 * (0 + 1 + (wrS s0D 1 (⟨#[97, 98]⟩)).ps.length + 1 + 1) + 2 * (wrS (wrS (synS (wrS s0D 1 (⟨#[97, 98]⟩))) 2 (⟨#[99, 100]⟩)) 1 (⟨#[101, 102]⟩)).ps.length) (crS (wrS (wrS (synS (wrS s0D 1 (⟨#[97, 98]⟩))) 2 (⟨#[99, 100]⟩)) 1 (⟨#[101, 102]⟩)) 3) ∧ ButD w.heap.size w72 xw) rfl rfl rfl (by kernel_rfl) (by kernel_rfl) (Try.call30 _ _) (tSerial w72 hd73) (by rintro e x ⟨rfl, h1, h2⟩; exact ⟨_, rfl, rfl, h1, h2⟩)) ?_; clear h82
 rintro _ w84 a83 ⟨rfl, hd85, hx86⟩ h83
 have hz88 := hx86.size
 have hB87 := (hbD hB75 hx86)
 have hz89 := hB87.size
 refine pk0 (v := .bool ((crS (wrS (wrS (synS (wrS s0D 1 (⟨#[97, 98]⟩))) 2 (⟨#[99, 100]⟩)) 1 (⟨#[101, 102]⟩)) 3).ser == 1)) h83 rfl fun a90 h90 => ?_; clear h83
 refine pk0 (v := .bool ((crS (wrS (wrS (synS (wrS s0D 1 (⟨#[97, 98]⟩))) 2 (⟨#[99, 100]⟩)) 1 (⟨#[101, 102]⟩)) 3).ser == 1)) h90 rfl fun a91 h91 => ?_; clear h90
 refine pk0 (v := .bool ((crS (wrS (wrS (synS (wrS s0D 1 (⟨#[97, 98]⟩))) 2 (⟨#[99, 100]⟩)) 1 (⟨#[101, 102]⟩)) 3).ser == 1)) h91 rfl fun a92 h92 => ?_; clear h91
 have hc93 : ((crS (wrS (wrS (synS (wrS s0D 1 (⟨#[97, 98]⟩))) 2 (⟨#[99, 100]⟩)) 1 (⟨#[101, 102]⟩)) 3).ser == 1) = true := by decide
 rw [hc93] at h92; clear hc93
 refine pk0 (v := pt N6 0) h92 rfl fun a94 h94 => ?_; clear h92
 refine pw h94 rfl (op_call (args := #[pt N6 0]) (R := fun res xw => res = .int .i64 ((crS (wrS (wrS (synS (wrS s0D 1 (⟨#[97, 98]⟩))) 2 (⟨#[99, 100]⟩)) 1 (⟨#[101, 102]⟩)) 3).boots) ∧ DObj w.heap.size xw N6 (2 * (0 + 1 + (wrS s0D 1 (⟨#[97, 98]⟩)).ps.length + 1 + 1) + 2 * (wrS (wrS (synS (wrS s0D 1 (⟨#[97, 98]⟩))) 2 (⟨#[99, 100]⟩)) 1 (⟨#[101, 102]⟩)).ps.length) (crS (wrS (wrS (synS (wrS s0D 1 (⟨#[97, 98]⟩))) 2 (⟨#[99, 100]⟩)) 1 (⟨#[101, 102]⟩)) 3) ∧ ButD w.heap.size w84 xw) rfl rfl rfl (by kernel_rfl) (by kernel_rfl) (Try.call31 _ _) (tBoots w84 hd85) (by rintro e x ⟨rfl, h1, h2⟩; exact ⟨_, rfl, rfl, h1, h2⟩)) ?_; clear h94
 rintro _ w96 a95 ⟨rfl, hd97, hx98⟩ h95
 have hz100 := hx98.size
 have hB99 := (hbD hB87 hx98)
 have hz101 := hB99.size
 refine pk0 (v := .bool ((crS (wrS (wrS (synS (wrS s0D 1 (⟨#[97, 98]⟩))) 2 (⟨#[99, 100]⟩)) 1 (⟨#[101, 102]⟩)) 3).boots == 2)) h95 rfl fun a102 h102 => ?_; clear h95
 refine pk0 (v := .bool ((crS (wrS (wrS (synS (wrS s0D 1 (⟨#[97, 98]⟩))) 2 (⟨#[99, 100]⟩)) 1 (⟨#[101, 102]⟩)) 3).boots == 2)) h102 rfl fun a103 h103 => ?_; clear h102
 refine pk0 (v := .bool ((crS (wrS (wrS (synS (wrS s0D 1 (⟨#[97, 98]⟩))) 2 (⟨#[99, 100]⟩)) 1 (⟨#[101, 102]⟩)) 3).boots == 2)) h103 rfl fun a104 h104 => ?_; clear h103
 refine pl_nil ?_
 refine co_then ?_
 refine wp_ret ?_
 refine co_ret1 h104 rfl rfl ?_
 exact ⟨rfl, hB99⟩
set_option maxRecDepth 100000 in
theorem diskZero_law (file : Int) (t : ByteArray) (w : World)  :
    Calls Try.prog 6 #[.int .i64 file, .string t] w fun e w' => e = .returned (.bool true) ∧ Below w.heap.size w w' := by
 have hB0 := Below.refl w.heap.size w
 refine co_enter (n := 81) Try.func6 rfl rfl rfl [(0, .int .i64 file), (1, .string t)] rfl (fun a h0 => ?_)
 refine co_seq ?_
 refine co_reg ?_
 refine pk0 (v := .bool false) h0 rfl fun a1 h1 => ?_; clear h0
 refine pl_nil ?_
 refine co_then ?_
 refine co_seq ?_
 refine co_reg ?_
 refine pk0 (v := .pointer none) h1 rfl fun a2 h2 => ?_; clear h1
 refine pl_nil ?_
 refine co_then ?_
 refine co_seq ?_
 refine co_reg ?_
 refine pw h2 rfl (op_new (v := fun N => pt N 0) (T := 47) (cs := #[.bool false, .map none, .slice none 0 0, .int .i64 0, .int .i64 0]) (by kernel_rfl) (by kernel_rfl) (by kernel_rfl)) ?_; clear h2
 rintro _ w4 a3 ⟨N5, rfl, hN8, hz9, hk7, hg6⟩ h3
 have hz10 := hg6.size
 try dsimp only at h3
 refine pl_nil ?_
 refine co_then ?_
 refine co_seq ?_
 refine co_reg ?_
 refine pk0 (v := .pointer none) h3 rfl fun a11 h11 => ?_; clear h3
 refine pw h11 rfl (op_call (args := #[.pointer none, .int .i64 1]) (R := fun res xw => res = .tuple #[] ∧ Below w4.heap.size w4 xw) rfl rfl rfl (by kernel_rfl) (by kernel_rfl) (Try.call25 _ _) (dCrashN_any 1 w4 ) (by rintro e x ⟨rfl, hb14⟩; exact ⟨_, rfl, ⟨rfl, hb14⟩⟩)) ?_; clear h11
 rintro _ w13 a12 ⟨rfl, hb14⟩ h12
 have hz15 := hb14.size
 refine pl_nil ?_
 refine co_then ?_
 refine co_seq ?_
 refine co_reg ?_
 have hk18 := hk7.below hb14
 refine pw h12 rfl (op_call (args := #[pt N5 0, .int .i64 1]) (R := fun res xw => res = .tuple #[] ∧ Below w13.heap.size w13 xw) rfl rfl rfl (by kernel_rfl) (by kernel_rfl) (Try.call25 _ _) (dCrashZ_any N5 1 w13 hk18) (by rintro e x ⟨rfl, hb19⟩; exact ⟨_, rfl, ⟨rfl, hb19⟩⟩)) ?_; clear h12
 rintro _ w17 a16 ⟨rfl, hb19⟩ h16
 have hz20 := hb19.size
 refine pl_nil ?_
 refine co_then ?_
 refine co_seq ?_
 refine co_reg ?_
 refine pk0 (v := .pointer none) h16 rfl fun a21 h21 => ?_; clear h16
 refine pw h21 rfl (op_call (args := #[.pointer none]) (R := fun res xw => res = .tuple #[] ∧ Below w17.heap.size w17 xw) rfl rfl rfl (by kernel_rfl) (by kernel_rfl) (Try.call28 _ _) (dEraseN_any  w17 ) (by rintro e x ⟨rfl, hb24⟩; exact ⟨_, rfl, ⟨rfl, hb24⟩⟩)) ?_; clear h21
 rintro _ w23 a22 ⟨rfl, hb24⟩ h22
 have hz25 := hb24.size
 refine pl_nil ?_
 refine co_then ?_
 refine co_seq ?_
 refine co_reg ?_
 have hk28 := hk18.below hb19
 have hk29 := hk28.below hb24
 refine pw h22 rfl (op_call (args := #[pt N5 0]) (R := fun res xw => res = .tuple #[] ∧ Below w23.heap.size w23 xw) rfl rfl rfl (by kernel_rfl) (by kernel_rfl) (Try.call28 _ _) (dEraseZ_any N5 w23 hk29) (by rintro e x ⟨rfl, hb30⟩; exact ⟨_, rfl, ⟨rfl, hb30⟩⟩)) ?_; clear h22
 rintro _ w27 a26 ⟨rfl, hb30⟩ h26
 have hz31 := hb30.size
 refine pl_nil ?_
 refine co_then ?_
 refine co_seq ?_
 refine co_reg ?_
 refine pk0 (v := .int .i64 8) h26 rfl fun a32 h32 => ?_; clear h26
 refine pl_nil ?_
 refine co_then ?_
 refine co_seq ?_
 refine co_reg ?_
 simp only [List.append_eq, List.cons_append, List.nil_append]
 refine pk0 (v := .pointer none) h32 rfl fun a33 h33 => ?_; clear h32
 refine pk0 (v := .int .i64 file) h33 rfl fun a34 h34 => ?_; clear h33
 refine pk0 (v := .string t) h34 rfl fun a35 h35 => ?_; clear h34
 refine pw h35 rfl (op_call (args := #[.pointer none, .int .i64 file, .string t]) (R := fun res xw => res = .int .i64 8 ∧ Below w27.heap.size w27 xw) rfl rfl rfl (by kernel_rfl) (by kernel_rfl) (Try.call21 _ _) (dWriteN_any file t w27 ) (by rintro e x ⟨rfl, hb38⟩; exact ⟨_, rfl, ⟨rfl, hb38⟩⟩)) ?_; clear h35
 rintro _ w37 a36 ⟨rfl, hb38⟩ h36
 have hz39 := hb38.size
 refine pk0 (v := .int .i64 8) h36 rfl fun a40 h40 => ?_; clear h36
 refine pk0 (v := .bool ((8 : Int) == 8)) h40 rfl fun a41 h41 => ?_; clear h40
 refine pk0 (v := .bool ((8 : Int) == 8)) h41 rfl fun a42 h42 => ?_; clear h41
 have hc43 : ((8 : Int) == 8) = true := by first | rfl | decide | simp
 rw [hc43] at h42; clear hc43
 refine pk0 (v := .int .i64 file) h42 rfl fun a44 h44 => ?_; clear h42
 refine pk0 (v := .string t) h44 rfl fun a45 h45 => ?_; clear h44
 have hk48 := hk29.below hb30
 have hk49 := hk48.below hb38
 refine pw h45 rfl (op_call (args := #[pt N5 0, .int .i64 file, .string t]) (R := fun res xw => res = .int .i64 8 ∧ Below w37.heap.size w37 xw) rfl rfl rfl (by kernel_rfl) (by kernel_rfl) (Try.call21 _ _) (dWriteZ_any N5 file t w37 hk49) (by rintro e x ⟨rfl, hb50⟩; exact ⟨_, rfl, ⟨rfl, hb50⟩⟩)) ?_; clear h45
 rintro _ w47 a46 ⟨rfl, hb50⟩ h46
 have hz51 := hb50.size
 refine pk0 (v := .int .i64 8) h46 rfl fun a52 h52 => ?_; clear h46
 refine pk0 (v := .bool ((8 : Int) == 8)) h52 rfl fun a53 h53 => ?_; clear h52
 refine pk0 (v := .bool ((8 : Int) == 8)) h53 rfl fun a54 h54 => ?_; clear h53
 refine pk0 (v := .bool ((8 : Int) == 8)) h54 rfl fun a55 h55 => ?_; clear h54
 have hc56 : ((8 : Int) == 8) = true := by first | rfl | decide | simp
 rw [hc56] at h55; clear hc56
 refine pk0 (v := .pointer none) h55 rfl fun a57 h57 => ?_; clear h55
 refine pk0 (v := .int .i64 file) h57 rfl fun a58 h58 => ?_; clear h57
 refine pw h58 rfl (op_call (args := #[.pointer none, .int .i64 file]) (R := fun res xw => res = .int .i64 8 ∧ Below w47.heap.size w47 xw) rfl rfl rfl (by kernel_rfl) (by kernel_rfl) (Try.call29 _ _) (dDropN_any file w47 ) (by rintro e x ⟨rfl, hb61⟩; exact ⟨_, rfl, ⟨rfl, hb61⟩⟩)) ?_; clear h58
 rintro _ w60 a59 ⟨rfl, hb61⟩ h59
 have hz62 := hb61.size
 refine pk0 (v := .int .i64 8) h59 rfl fun a63 h63 => ?_; clear h59
 refine pk0 (v := .bool ((8 : Int) == 8)) h63 rfl fun a64 h64 => ?_; clear h63
 refine pk0 (v := .bool ((8 : Int) == 8)) h64 rfl fun a65 h65 => ?_; clear h64
 refine pk0 (v := .bool ((8 : Int) == 8)) h65 rfl fun a66 h66 => ?_; clear h65
 have hc67 : ((8 : Int) == 8) = true := by first | rfl | decide | simp
 rw [hc67] at h66; clear hc67
 refine pk0 (v := .int .i64 file) h66 rfl fun a68 h68 => ?_; clear h66
 have hk71 := hk49.below hb50
 have hk72 := hk71.below hb61
 refine pw h68 rfl (op_call (args := #[pt N5 0, .int .i64 file]) (R := fun res xw => res = .int .i64 8 ∧ Below w60.heap.size w60 xw) rfl rfl rfl (by kernel_rfl) (by kernel_rfl) (Try.call29 _ _) (dDropZ_any N5 file w60 hk72) (by rintro e x ⟨rfl, hb73⟩; exact ⟨_, rfl, ⟨rfl, hb73⟩⟩)) ?_; clear h68
 rintro _ w70 a69 ⟨rfl, hb73⟩ h69
 have hz74 := hb73.size
 refine pk0 (v := .int .i64 8) h69 rfl fun a75 h75 => ?_; clear h69
 refine pk0 (v := .bool ((8 : Int) == 8)) h75 rfl fun a76 h76 => ?_; clear h75
 refine pk0 (v := .bool ((8 : Int) == 8)) h76 rfl fun a77 h77 => ?_; clear h76
 refine pk0 (v := .bool ((8 : Int) == 8)) h77 rfl fun a78 h78 => ?_; clear h77
 have hc79 : ((8 : Int) == 8) = true := by first | rfl | decide | simp
 rw [hc79] at h78; clear hc79
 refine pk0 (v := .pointer none) h78 rfl fun a80 h80 => ?_; clear h78
 refine pk0 (v := .int .i64 file) h80 rfl fun a81 h81 => ?_; clear h80
 refine pw h81 rfl (op_call (args := #[.pointer none, .int .i64 file]) (R := fun res xw => res = .string (⟨#[]⟩) ∧ Below w70.heap.size w70 xw) rfl rfl rfl (by kernel_rfl) (by kernel_rfl) (Try.call19 _ _) (dDataN_any file w70 ) (by rintro e x ⟨rfl, hb84⟩; exact ⟨_, rfl, ⟨rfl, hb84⟩⟩)) ?_; clear h81
 rintro _ w83 a82 ⟨rfl, hb84⟩ h82
 have hz85 := hb84.size
 refine pk0 (v := .int .i64 file) h82 rfl fun a86 h86 => ?_; clear h82
 have hk89 := hk72.below hb73
 have hk90 := hk89.below hb84
 refine pw h86 rfl (op_call (args := #[pt N5 0, .int .i64 file]) (R := fun res xw => res = .string (⟨#[]⟩) ∧ Below w83.heap.size w83 xw) rfl rfl rfl (by kernel_rfl) (by kernel_rfl) (Try.call19 _ _) (dDataZ_any N5 file w83 hk90) (by rintro e x ⟨rfl, hb91⟩; exact ⟨_, rfl, ⟨rfl, hb91⟩⟩)) ?_; clear h86
 rintro _ w88 a87 ⟨rfl, hb91⟩ h87
 have hz92 := hb91.size
 refine pk0 (v := .string (⟨#[]⟩)) h87 rfl fun a93 h93 => ?_; clear h87
 refine pk0 (v := .bool ((⟨#[]⟩ : ByteArray).toList == (⟨#[]⟩ : ByteArray).toList)) h93 rfl fun a94 h94 => ?_; clear h93
 refine pk0 (v := .bool ((⟨#[]⟩ : ByteArray).toList == (⟨#[]⟩ : ByteArray).toList)) h94 rfl fun a95 h95 => ?_; clear h94
 refine pk0 (v := .bool ((⟨#[]⟩ : ByteArray).toList == (⟨#[]⟩ : ByteArray).toList)) h95 rfl fun a96 h96 => ?_; clear h95
 have hc97 : ((⟨#[]⟩ : ByteArray).toList == (⟨#[]⟩ : ByteArray).toList) = true := by first | rfl | decide | simp
 rw [hc97] at h96; clear hc97
 refine pk0 (v := .pointer none) h96 rfl fun a98 h98 => ?_; clear h96
 refine pw h98 rfl (op_call (args := #[.pointer none]) (R := fun res xw => res = .slice none 0 0 ∧ Below w88.heap.size w88 xw) rfl rfl rfl (by kernel_rfl) (by kernel_rfl) (Try.call23 _ _) (dFilesN_any  w88 ) (by rintro e x ⟨rfl, hb101⟩; exact ⟨_, rfl, ⟨rfl, hb101⟩⟩)) ?_; clear h98
 rintro _ w100 a99 ⟨rfl, hb101⟩ h99
 have hz102 := hb101.size
 refine pk0 (v := .int .i64 0) h99 rfl fun a103 h103 => ?_; clear h99
 have hk106 := hk90.below hb91
 have hk107 := hk106.below hb101
 refine pw h103 rfl (op_call (args := #[pt N5 0]) (R := fun res xw => res = .slice none 0 0 ∧ Below w100.heap.size w100 xw) rfl rfl rfl (by kernel_rfl) (by kernel_rfl) (Try.call23 _ _) (dFilesZ_any N5 w100 hk107) (by rintro e x ⟨rfl, hb108⟩; exact ⟨_, rfl, ⟨rfl, hb108⟩⟩)) ?_; clear h103
 rintro _ w105 a104 ⟨rfl, hb108⟩ h104
 have hz109 := hb108.size
 refine pk0 (v := .int .i64 0) h104 rfl fun a110 h110 => ?_; clear h104
 refine pk0 (v := .int .i64 0) h110 rfl fun a111 h111 => ?_; clear h110
 refine pk0 (v := .pointer none) h111 rfl fun a112 h112 => ?_; clear h111
 refine pw h112 rfl (op_call (args := #[.pointer none]) (R := fun res xw => res = .int .i64 0 ∧ Below w105.heap.size w105 xw) rfl rfl rfl (by kernel_rfl) (by kernel_rfl) (Try.call22 _ _) (dSyncN_any  w105 ) (by rintro e x ⟨rfl, hb115⟩; exact ⟨_, rfl, ⟨rfl, hb115⟩⟩)) ?_; clear h112
 rintro _ w114 a113 ⟨rfl, hb115⟩ h113
 have hz116 := hb115.size
 refine pk0 (v := .int .i64 0) h113 rfl fun a117 h117 => ?_; clear h113
 have hk120 := hk107.below hb108
 have hk121 := hk120.below hb115
 refine pw h117 rfl (op_call (args := #[pt N5 0]) (R := fun res xw => res = .int .i64 0 ∧ Below w114.heap.size w114 xw) rfl rfl rfl (by kernel_rfl) (by kernel_rfl) (Try.call22 _ _) (dSyncZ_any N5 w114 hk121) (by rintro e x ⟨rfl, hb122⟩; exact ⟨_, rfl, ⟨rfl, hb122⟩⟩)) ?_; clear h117
 rintro _ w119 a118 ⟨rfl, hb122⟩ h118
 have hz123 := hb122.size
 refine pk0 (v := .int .i64 0) h118 rfl fun a124 h124 => ?_; clear h118
 refine pk0 (v := .pointer none) h124 rfl fun a125 h125 => ?_; clear h124
 refine pw h125 rfl (op_call (args := #[.pointer none]) (R := fun res xw => res = .int .i64 0 ∧ Below w119.heap.size w119 xw) rfl rfl rfl (by kernel_rfl) (by kernel_rfl) (Try.call24 _ _) (dPendingN_any  w119 ) (by rintro e x ⟨rfl, hb128⟩; exact ⟨_, rfl, ⟨rfl, hb128⟩⟩)) ?_; clear h125
 rintro _ w127 a126 ⟨rfl, hb128⟩ h126
 have hz129 := hb128.size
 refine pk0 (v := .int .i64 0) h126 rfl fun a130 h130 => ?_; clear h126
 have hk133 := hk121.below hb122
 have hk134 := hk133.below hb128
 refine pw h130 rfl (op_call (args := #[pt N5 0]) (R := fun res xw => res = .int .i64 0 ∧ Below w127.heap.size w127 xw) rfl rfl rfl (by kernel_rfl) (by kernel_rfl) (Try.call24 _ _) (dPendingZ_any N5 w127 hk134) (by rintro e x ⟨rfl, hb135⟩; exact ⟨_, rfl, ⟨rfl, hb135⟩⟩)) ?_; clear h130
 rintro _ w132 a131 ⟨rfl, hb135⟩ h131
 have hz136 := hb135.size
 refine pk0 (v := .int .i64 0) h131 rfl fun a137 h137 => ?_; clear h131
 refine pk0 (v := .pointer none) h137 rfl fun a138 h138 => ?_; clear h137
 refine pw h138 rfl (op_call (args := #[.pointer none]) (R := fun res xw => res = .int .i64 0 ∧ Below w132.heap.size w132 xw) rfl rfl rfl (by kernel_rfl) (by kernel_rfl) (Try.call30 _ _) (dSerialN_any  w132 ) (by rintro e x ⟨rfl, hb141⟩; exact ⟨_, rfl, ⟨rfl, hb141⟩⟩)) ?_; clear h138
 rintro _ w140 a139 ⟨rfl, hb141⟩ h139
 have hz142 := hb141.size
 refine pk0 (v := .int .i64 0) h139 rfl fun a143 h143 => ?_; clear h139
 have hk146 := hk134.below hb135
 have hk147 := hk146.below hb141
 refine pw h143 rfl (op_call (args := #[pt N5 0]) (R := fun res xw => res = .int .i64 0 ∧ Below w140.heap.size w140 xw) rfl rfl rfl (by kernel_rfl) (by kernel_rfl) (Try.call30 _ _) (dSerialZ_any N5 w140 hk147) (by rintro e x ⟨rfl, hb148⟩; exact ⟨_, rfl, ⟨rfl, hb148⟩⟩)) ?_; clear h143
 rintro _ w145 a144 ⟨rfl, hb148⟩ h144
 have hz149 := hb148.size
 refine pk0 (v := .int .i64 0) h144 rfl fun a150 h150 => ?_; clear h144
 refine pk0 (v := .pointer none) h150 rfl fun a151 h151 => ?_; clear h150
 refine pw h151 rfl (op_call (args := #[.pointer none]) (R := fun res xw => res = .int .i64 0 ∧ Below w145.heap.size w145 xw) rfl rfl rfl (by kernel_rfl) (by kernel_rfl) (Try.call31 _ _) (dBootsN_any  w145 ) (by rintro e x ⟨rfl, hb154⟩; exact ⟨_, rfl, ⟨rfl, hb154⟩⟩)) ?_; clear h151
 rintro _ w153 a152 ⟨rfl, hb154⟩ h152
 have hz155 := hb154.size
 refine pk0 (v := .int .i64 0) h152 rfl fun a156 h156 => ?_; clear h152
 have hk159 := hk147.below hb148
 have hk160 := hk159.below hb154
 refine pw h156 rfl (op_call (args := #[pt N5 0]) (R := fun res xw => res = .int .i64 0 ∧ Below w153.heap.size w153 xw) rfl rfl rfl (by kernel_rfl) (by kernel_rfl) (Try.call31 _ _) (dBootsZ_any N5 w153 hk160) (by rintro e x ⟨rfl, hb161⟩; exact ⟨_, rfl, ⟨rfl, hb161⟩⟩)) ?_; clear h156
 rintro _ w158 a157 ⟨rfl, hb161⟩ h157
 have hz162 := hb161.size
 refine pk0 (v := .int .i64 0) h157 rfl fun a163 h163 => ?_; clear h157
 refine pk0 (v := .bool ((0 : Int) == 0)) h163 rfl fun a164 h164 => ?_; clear h163
 refine pk0 (v := .bool ((0 : Int) == 0)) h164 rfl fun a165 h165 => ?_; clear h164
 refine pk0 (v := .bool ((0 : Int) == 0)) h165 rfl fun a166 h166 => ?_; clear h165
 have hc167 : ((0 : Int) == 0) = true := by first | rfl | decide | simp
 rw [hc167] at h166; clear hc167
 refine pw h166 rfl (op_call (args := #[]) (R := fun res xw => res = .bool true ∧ Below w158.heap.size w158 xw) rfl rfl rfl (by kernel_rfl) (by kernel_rfl) (Try.call20 _ _) (awake11  w158 ) (by rintro e x ⟨rfl, hb170⟩; exact ⟨_, rfl, ⟨rfl, hb170⟩⟩)) ?_; clear h166
 rintro _ w169 a168 ⟨rfl, hb170⟩ h168
 have hz171 := hb170.size
 refine pk0 (v := .bool true) h168 rfl fun a172 h172 => ?_; clear h168
 refine pk0 (v := .bool true) h172 rfl fun a173 h173 => ?_; clear h172
 refine pl_nil ?_
 refine co_then ?_
 refine wp_ret ?_
 refine co_ret1 h173 rfl rfl ?_
 have hB174 := hb_new hB0 hg6
 have hB175 := hb_call hB174 hb14
 have hB176 := hb_call hB175 hb19
 have hB177 := hb_call hB176 hb24
 have hB178 := hb_call hB177 hb30
 have hB179 := hb_call hB178 hb38
 have hB180 := hb_call hB179 hb50
 have hB181 := hb_call hB180 hb61
 have hB182 := hb_call hB181 hb73
 have hB183 := hb_call hB182 hb84
 have hB184 := hb_call hB183 hb91
 have hB185 := hb_call hB184 hb101
 have hB186 := hb_call hB185 hb108
 have hB187 := hb_call hB186 hb115
 have hB188 := hb_call hB187 hb122
 have hB189 := hb_call hB188 hb128
 have hB190 := hb_call hB189 hb135
 have hB191 := hb_call hB190 hb141
 have hB192 := hb_call hB191 hb148
 have hB193 := hb_call hB192 hb154
 have hB194 := hb_call hB193 hb161
 have hB195 := hb_call hB194 hb170
 exact ⟨rfl, hB195⟩
theorem diskZero_c (file : Int) (t : ByteArray) (w : World) (h : t.size ≤ 140737488351232) : Calls Try.prog 6 #[.int .i64 file, .string t] w fun e w' => e = .returned (.bool true) ∧ Below w.heap.size w w' := diskZero_law file t w
end Go.Proofs.Ytcnahhobppnbbaa
