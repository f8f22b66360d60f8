/- catenalaw06.awake. Conditions: none. -/
import Derived.Test.YteioaaegooebpaaOpsK
namespace Go.Proofs.Yteioaaegooebpaa
open Go.RowKit Go.PlainAid
set_option linter.unusedVariables false

open Go.Sort Go.Shelf Go.Lib
set_option maxRecDepth 100000 in
theorem awake06_any  (w : World)  :
    Calls Try.prog 11 #[] w fun e w' => e = .returned (.bool true) ∧ Below w.heap.size w w' := by
  have hB0 := Below.refl w.heap.size w
  refine co_enter (n := 35) Try.func11 rfl rfl rfl [] rfl (fun a h0 => ?_)
  refine co_seq ?_
  refine co_reg ?_
  refine pl_val (v := .bool false) h0 rfl rfl rfl (by kernel_rfl) (by kernel_rfl) (by kernel_rfl) (fun a1 h1 => ?_); clear h0
  refine pl_nil ?_
  refine co_then ?_
  refine co_seq ?_
  refine co_reg ?_
  refine pl_val (v := .agg #[.string (⟨#[97]⟩), .string (⟨#[98]⟩), .bool false]) h1 rfl rfl rfl (by kernel_rfl) (by kernel_rfl) (by kernel_rfl) (fun a2 h2 => ?_); clear h1
  refine pl_want h2 rfl rfl rfl (op_new (v := fun N => .slice (some ⟨N, 0, none⟩) 1 1) (T := 86) (cs := #[.string (⟨#[97]⟩), .string (⟨#[98]⟩), .bool false]) (by kernel_rfl) (by kernel_rfl) (by kernel_rfl)) ?_; clear h2
  rintro _ w4 a3 ⟨N5, rfl, hN8, hz9, hk7, hg6⟩ h3
  have hB10 := hb_new hB0 hg6
  have hz11 := hB10.size
  have hz12 := hg6.size
  try dsimp only at h3
  refine pl_val (v := .agg #[.int .i64 0, .int .i64 1, .slice (some ⟨N5, 0, none⟩) 1 1]) h3 rfl rfl rfl (by kernel_rfl) (by kernel_rfl) (by kernel_rfl) (fun a13 h13 => ?_); clear h3
  have hr16 := row_of_cells (enc := opE) (sz := 3) ([(⟨#[97]⟩, ⟨#[98]⟩, false)] : List OpT) hk7 (Nat.le_refl _) rfl rfl (by unfold maxLen; simp)
  refine pl_want h13 rfl rfl rfl (op_call (args := #[.agg #[.int .i64 0, .int .i64 1, .slice (some ⟨N5, 0, none⟩) 1 1]]) (R := fun res xw => res = .tuple #[.string (putB 0 1 ([(⟨#[97]⟩, ⟨#[98]⟩, false)] : List OpT)), .int .i64 (chkB 0 1 ([(⟨#[97]⟩, ⟨#[98]⟩, false)] : List OpT))] ∧ Below w4.heap.size w4 xw) rfl rfl rfl (by kernel_rfl) (by kernel_rfl) (Try.call49 _ _) (opsPut_any 0 1 (.slice (some ⟨N5, 0, none⟩) 1 1) ([(⟨#[97]⟩, ⟨#[98]⟩, false)] : List OpT) w4 (row_sl hr16 opE_len)) (by rintro e x ⟨rfl, hb17⟩; exact ⟨_, rfl, ⟨rfl, hb17⟩⟩)) ?_; clear h13
  rintro _ w15 a14 ⟨rfl, hb17⟩ h14
  have hB18 := hb_call hB10 hb17
  have hz19 := hB18.size
  have hz20 := hb17.size
  have hr21 := row_kept_new hr16 (below_grown hb17)
  refine pl_val (v := .tuple #[.string (putB 0 1 ([(⟨#[97]⟩, ⟨#[98]⟩, false)] : List OpT)), .int .i64 (chkB 0 1 ([(⟨#[97]⟩, ⟨#[98]⟩, false)] : List OpT))]) h14 rfl rfl rfl (by kernel_rfl) (by kernel_rfl) (by kernel_rfl) (fun a22 h22 => ?_); clear h14
  refine pl_val (v := .string (putB 0 1 ([(⟨#[97]⟩, ⟨#[98]⟩, false)] : List OpT))) h22 rfl rfl rfl (by kernel_rfl) (by kernel_rfl) (by kernel_rfl) (fun a23 h23 => ?_); clear h22
  refine pl_val (v := .int .i64 (chkB 0 1 ([(⟨#[97]⟩, ⟨#[98]⟩, false)] : List OpT))) h23 rfl rfl rfl (by kernel_rfl) (by kernel_rfl) (by kernel_rfl) (fun a24 h24 => ?_); clear h23
  refine pl_val (v := .string (putB 0 1 ([(⟨#[97]⟩, ⟨#[98]⟩, false)] : List OpT))) h24 rfl rfl rfl (by kernel_rfl) (by kernel_rfl) (by kernel_rfl) (fun a25 h25 => ?_); clear h24
  refine pl_val (v := .int .i64 (chkB 0 1 ([(⟨#[97]⟩, ⟨#[98]⟩, false)] : List OpT))) h25 rfl rfl rfl (by kernel_rfl) (by kernel_rfl) (by kernel_rfl) (fun a26 h26 => ?_); clear h25
  refine pl_nil ?_
  refine co_then ?_
  refine co_seq ?_
  refine co_reg ?_
  refine pl_val (v := .agg #[.string (⟨#[97]⟩), .string (⟨#[49]⟩)]) h26 rfl rfl rfl (by kernel_rfl) (by kernel_rfl) (by kernel_rfl) (fun a27 h27 => ?_); clear h26
  refine pl_want h27 rfl rfl rfl (op_new (v := fun N => .slice (some ⟨N, 0, none⟩) 1 1) (T := 88) (cs := #[.string (⟨#[97]⟩), .string (⟨#[49]⟩)]) (by kernel_rfl) (by kernel_rfl) (by kernel_rfl)) ?_; clear h27
  rintro _ w29 a28 ⟨N30, rfl, hN33, hz34, hk32, hg31⟩ h28
  have ha35 := row_fresh hr21 hN33
  have hB36 := hb_new hB18 hg31
  have hz37 := hB36.size
  have hz38 := hg31.size
  have hr39 := row_kept_new hr21 hg31
  try dsimp only at h28
  refine pl_val (v := .agg #[.string (⟨#[97]⟩), .string (⟨#[]⟩), .bool true]) h28 rfl rfl rfl (by kernel_rfl) (by kernel_rfl) (by kernel_rfl) (fun a40 h40 => ?_); clear h28
  refine pl_val (v := .agg #[.string (⟨#[98]⟩), .string (⟨#[50]⟩), .bool false]) h40 rfl rfl rfl (by kernel_rfl) (by kernel_rfl) (by kernel_rfl) (fun a41 h41 => ?_); clear h40
  refine pl_want h41 rfl rfl rfl (op_new (v := fun N => .slice (some ⟨N, 0, none⟩) 2 2) (T := 86) (cs := #[.string (⟨#[97]⟩), .string (⟨#[]⟩), .bool true, .string (⟨#[98]⟩), .string (⟨#[50]⟩), .bool false]) (by kernel_rfl) (by kernel_rfl) (by kernel_rfl)) ?_; clear h41
  rintro _ w43 a42 ⟨N44, rfl, hN47, hz48, hk46, hg45⟩ h42
  have ha49 := row_fresh hr39 hN47
  have hB50 := hb_new hB36 hg45
  have hz51 := hB50.size
  have hz52 := hg45.size
  have hr53 := row_kept_new hr39 hg45
  have hk54 := hk32.kept hg45 (by simp)
  try dsimp only at h42
  have hr57 := row_of_cells (enc := valE) (sz := 2) ([(⟨#[97]⟩, ⟨#[49]⟩)] : List ValT) hk54 (Nat.le_refl _) rfl rfl (by unfold maxLen; simp)
  have hr58 := row_of_cells (enc := opE) (sz := 3) ([(⟨#[97]⟩, ⟨#[]⟩, true), (⟨#[98]⟩, ⟨#[50]⟩, false)] : List OpT) hk46 (Nat.le_refl _) rfl rfl (by unfold maxLen; simp)
  refine pl_want h42 rfl rfl rfl (op_call (args := #[.slice (some ⟨N30, 0, none⟩) 1 1, .slice (some ⟨N44, 0, none⟩) 2 2]) (R := fun res xw => ∃ ys : List ValT, ∃ u : Value, res = u ∧ xw.ownsRow w43.heap.size 88 2 u ys.length (ys.flatMap valE) ∧ SetG (fun y : ValT => y.1) (ovG ([(⟨#[97]⟩, ⟨#[49]⟩)] : List ValT) ([(⟨#[97]⟩, ⟨#[]⟩, true), (⟨#[98]⟩, ⟨#[50]⟩, false)] : List OpT)) ys ∧ ys.length ≤ ([(⟨#[97]⟩, ⟨#[49]⟩)] : List ValT).length + ([(⟨#[97]⟩, ⟨#[]⟩, true), (⟨#[98]⟩, ⟨#[50]⟩, false)] : List OpT).length ∧ Below w43.heap.size w43 xw) rfl rfl rfl (by kernel_rfl) (by kernel_rfl) (Try.call12 _ _) (opsOver_any (.slice (some ⟨N30, 0, none⟩) 1 1) ([(⟨#[97]⟩, ⟨#[49]⟩)] : List ValT) (.slice (some ⟨N44, 0, none⟩) 2 2) ([(⟨#[97]⟩, ⟨#[]⟩, true), (⟨#[98]⟩, ⟨#[50]⟩, false)] : List OpT) w43 (row_sl hr57 valE_len) (row_sl hr58 opE_len) (by first | omega | (simp; done) | (simp; omega))) (by rintro e x ⟨ys, u, rfl, hq61, hq62, hq63, hb64⟩; exact ⟨_, rfl, ⟨ys, u, rfl, hq61, hq62, hq63, hb64⟩⟩)) ?_; clear h42
  rintro u60 w56 a55 ⟨ys59, _, rfl, hq61, hq62, hq63, hb64⟩ h55
  have hB65 := hb_call hB50 hb64
  have hz66 := hB65.size
  have hz67 := hb64.size
  have hr68 := row_kept_new hr53 (below_grown hb64)
  have hr69 := row_kept_new hr57 (below_grown hb64)
  have hr70 := row_kept_new hr58 (below_grown hb64)
  obtain rfl : ys59 = ([(⟨#[98]⟩, ⟨#[50]⟩)] : List ValT) := SetG.uniq hq62 awake_set
  have hl71 := sl_len (row_sl hq61 valE_len)
  refine pl_val (v := u60) h55 rfl rfl rfl (by kernel_rfl) (by kernel_rfl) (by kernel_rfl) (fun a72 h72 => ?_); clear h55
  refine pl_nil ?_
  refine co_then ?_
  refine co_seq ?_
  refine co_reg ?_
  refine pl_val (v := .string (putB 0 1 ([(⟨#[97]⟩, ⟨#[98]⟩, false)] : List OpT))) h72 rfl rfl rfl (by kernel_rfl) (by kernel_rfl) (by kernel_rfl) (fun a73 h73 => ?_); clear h72
  refine pl_val (v := .bool ((putB 0 1 ([(⟨#[97]⟩, ⟨#[98]⟩, false)] : List OpT) : ByteArray).toList == (⟨#[0, 1, 1, 1, 97, 0, 1, 98]⟩ : ByteArray).toList)) h73 rfl rfl rfl (by kernel_rfl) (by kernel_rfl) (by kernel_rfl) (fun a74 h74 => ?_); clear h73
  refine pl_val (v := .bool ((putB 0 1 ([(⟨#[97]⟩, ⟨#[98]⟩, false)] : List OpT) : ByteArray).toList == (⟨#[0, 1, 1, 1, 97, 0, 1, 98]⟩ : ByteArray).toList)) h74 rfl rfl rfl (by kernel_rfl) (by kernel_rfl) (by kernel_rfl) (fun a75 h75 => ?_); clear h74
  have hc76 : ((putB 0 1 ([(⟨#[97]⟩, ⟨#[98]⟩, false)] : List OpT) : ByteArray).toList == (⟨#[0, 1, 1, 1, 97, 0, 1, 98]⟩ : ByteArray).toList) = true := by rw [awake_put.1]; simp
  rw [hc76] at h75; clear hc76
  refine pl_val (v := .int .i64 (chkB 0 1 ([(⟨#[97]⟩, ⟨#[98]⟩, false)] : List OpT))) h75 rfl rfl rfl (by kernel_rfl) (by kernel_rfl) (by kernel_rfl) (fun a77 h77 => ?_); clear h75
  refine pl_val (v := .bool (chkB 0 1 ([(⟨#[97]⟩, ⟨#[98]⟩, false)] : List OpT) == 0)) h77 rfl rfl rfl (by kernel_rfl) (by kernel_rfl) (by kernel_rfl) (fun a78 h78 => ?_); clear h77
  refine pl_val (v := .bool (chkB 0 1 ([(⟨#[97]⟩, ⟨#[98]⟩, false)] : List OpT) == 0)) h78 rfl rfl rfl (by kernel_rfl) (by kernel_rfl) (by kernel_rfl) (fun a79 h79 => ?_); clear h78
  refine pl_val (v := .bool (chkB 0 1 ([(⟨#[97]⟩, ⟨#[98]⟩, false)] : List OpT) == 0)) h79 rfl rfl rfl (by kernel_rfl) (by kernel_rfl) (by kernel_rfl) (fun a80 h80 => ?_); clear h79
  have hc81 : (chkB 0 1 ([(⟨#[97]⟩, ⟨#[98]⟩, false)] : List OpT) == 0) = true := by simp [awake_put.2]
  rw [hc81] at h80; clear hc81
  refine pl_val (v := u60) h80 rfl rfl rfl (by kernel_rfl) (by kernel_rfl) (by kernel_rfl) (fun a82 h82 => ?_); clear h80
  refine pl_val (v := .int .i64 ((([(⟨#[98]⟩, ⟨#[50]⟩)] : List ValT).length : Nat) : Int)) h82 rfl rfl rfl (by kernel_rfl) (by kernel_rfl) (rn_lenOwn rfl rfl Try.underlying22 hq61) (fun a83 h83 => ?_); clear h82
  refine pl_val (v := .bool (((([(⟨#[98]⟩, ⟨#[50]⟩)] : List ValT).length : Nat) : Int) == 1)) h83 rfl rfl rfl (by kernel_rfl) (by kernel_rfl) (by kernel_rfl) (fun a84 h84 => ?_); clear h83
  refine pl_val (v := .bool (((([(⟨#[98]⟩, ⟨#[50]⟩)] : List ValT).length : Nat) : Int) == 1)) h84 rfl rfl rfl (by kernel_rfl) (by kernel_rfl) (by kernel_rfl) (fun a85 h85 => ?_); clear h84
  refine pl_val (v := .bool (((([(⟨#[98]⟩, ⟨#[50]⟩)] : List ValT).length : Nat) : Int) == 1)) h85 rfl rfl rfl (by kernel_rfl) (by kernel_rfl) (by kernel_rfl) (fun a86 h86 => ?_); clear h85
  have hc87 : (((([(⟨#[98]⟩, ⟨#[50]⟩)] : List ValT).length : Nat) : Int) == 1) = true := by first | rfl | simp
  rw [hc87] at h86; clear hc87
  refine pl_val (v := u60) h86 rfl rfl rfl (by kernel_rfl) (by kernel_rfl) (by kernel_rfl) (fun a88 h88 => ?_); clear h86
  obtain ⟨y89, hy89⟩ : ∃ z, ([(⟨#[98]⟩, ⟨#[50]⟩)] : List ValT)[0]? = some z := ⟨_, List.getElem?_eq_getElem (by first | omega | (simp; done) | (simp; omega))⟩
  refine pl_val (v := .pointer (some ⟨(blkOf u60), offOf u60 + 0 * 2, none⟩)) h88 rfl rfl rfl (by kernel_rfl) (by kernel_rfl) (rn_index rfl rfl rfl Try.underlying22 Try.sizeOf88 (row_sl hq61 valE_len) (by omega) (by first | omega | (simp; done) | (simp; omega))) (fun a90 h90 => ?_); clear h88
  refine pl_val (v := .pointer (some ⟨(blkOf u60), offOf u60 + 0 * 2, none⟩)) h90 rfl rfl rfl (by kernel_rfl) (by kernel_rfl) (by kernel_rfl) (fun a91 h91 => ?_); clear h90
  refine pl_val (v := .string y89.1) h91 rfl rfl rfl (by kernel_rfl) (by kernel_rfl) (rn_load1 rfl rfl Try.isAgg9 ((sl_at (row_sl hq61 valE_len) hy89) 0 _ rfl)) (fun a92 h92 => ?_); clear h91
  refine pl_val (v := .bool (y89.1.toList == (⟨#[98]⟩ : ByteArray).toList)) h92 rfl rfl rfl (by kernel_rfl) (by kernel_rfl) (by kernel_rfl) (fun a93 h93 => ?_); clear h92
  refine pl_val (v := .bool (y89.1.toList == (⟨#[98]⟩ : ByteArray).toList)) h93 rfl rfl rfl (by kernel_rfl) (by kernel_rfl) (by kernel_rfl) (fun a94 h94 => ?_); clear h93
  refine pl_val (v := .bool (y89.1.toList == (⟨#[98]⟩ : ByteArray).toList)) h94 rfl rfl rfl (by kernel_rfl) (by kernel_rfl) (by kernel_rfl) (fun a95 h95 => ?_); clear h94
  refine pl_nil ?_
  refine co_then ?_
  refine wp_ret ?_
  refine co_ret1 h95 rfl rfl ?_
  exact ⟨ret_bool (by have hz := hy89; simp at hz; subst hz; simp), hB65⟩
end Go.Proofs.Yteioaaegooebpaa
