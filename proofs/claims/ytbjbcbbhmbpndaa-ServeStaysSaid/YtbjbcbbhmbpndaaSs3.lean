/- Put together: TrcCSv, TrcDSv, TrcESv, TrcFSv, TrcGSv, TrcKSv, TrcISv, TrcHSv, TrcJSv, TrcLSv, VerASv. Conditions: as each says. -/
import Derived.Test.YtbjbcbbhmbpndaaSs2
import Derived.RangeFuncNested
import Derived.RangeFuncBound
import Derived.RangeFuncCalls
import Derived.RangeFuncLeaves
import Derived.RangeFuncBox
import Derived.Shelf.Abstract
import Derived.Shelf.RegionOpen
import Derived.WalkKit
import Derived.OwnWalkIn
import Derived.TacticsInMore
import Derived.LoopNIn
import Derived.LoopIn
import Derived.ScopeJumps
import Derived.Test.YtbjbcbbhmbpndaaSs1
import Derived.Maps.AppendAt
import Derived.BigQuiet
import Derived.WalkMore
import Derived.Deep.AppendLies
import Derived.Deep.RegionLaw
/- Package tree: balance, way by way. Conditions: depths of at most 900000. -/
namespace Go.Proofs.Ytbjbcbbhmbpndaa
open Go.RowKit Go.PlainAid
set_option linter.unusedVariables false
set_option linter.unusedSimpArgs false

set_option maxRecDepth 100000 in
theorem balA_any (b : Nat) (c : Nat) (ll : Tm) (lr : Tm) (r : Tm) (k : ByteArray) (v : SlT) (d : Int) (k2 : ByteArray) (v2 : SlT) (d2 : Int) (w : World) (hB : Blk w b 180 #[.string k, .slice v.a v.n v.c, .int .i64 d, pt c 0, (ptT r)]) (hC : Blk w c 180 #[.string k2, .slice v2.a v2.n v2.c, .int .i64 d2, (ptT ll), (ptT lr)]) (hll : TreeAt w ll) (hlr : TreeAt w lr) (hr : TreeAt w r) (hnebc : b ≠ c) (n_b_ll : b ∉ bk ll) (n_b_lr : b ∉ bk lr) (n_b_r : b ∉ bk r) (n_c_ll : c ∉ bk ll) (n_c_lr : c ∉ bk lr) (n_c_r : c ∉ bk r) (hdll : 0 ≤ dp ll ∧ dp ll ≤ 900000) (hdlr : 0 ≤ dp lr ∧ dp lr ≤ 900000) (hdr : 0 ≤ dp r ∧ dp r ≤ 900000) (hd2 : 0 ≤ d2 ∧ d2 ≤ 900000) (hdif : d2 - dp r = 2) (hcmp : ¬ (dp ll < dp lr)) :
    Calls Try.prog 121 #[pt b 0] w fun e w' => e = .returned (pt c 0) ∧ Blk w' b 180 #[.string k, .slice v.a v.n v.c, .int .i64 (1 + mx (dp lr) (dp r)), ptT lr, ptT r] ∧ Blk w' c 180 #[.string k2, .slice v2.a v2.n v2.c, .int .i64 (1 + mx (dp ll) (1 + mx (dp lr) (dp r))), ptT ll, pt b 0] ∧ TreeAt w' ll ∧ TreeAt w' lr ∧ TreeAt w' r ∧ But (fun q => q = b ∨ q = c) w w' := by
 have hB0 := But.refl (fun q => q = b ∨ q = c) w
 have hl_hB := hB.lt
 have hl_hC := hC.lt
 have hSb : (fun q => q = b ∨ q = c) b ∨ w.heap.size ≤ b := .inl (by simp)
 have hSc : (fun q => q = b ∨ q = c) c ∨ w.heap.size ≤ c := .inl (by simp)
 refine co_enter (n := 75) Try.func121 rfl rfl rfl [(0, pt b 0)] rfl (fun a h0 => ?_)
 refine co_seq ?_
 refine co_reg ?_
 refine pk0 (v := .pointer none) h0 rfl fun a1 h1 => ?_; clear h0
 refine pl_nil ?_
 refine co_then ?_
 refine co_seq ?_
 refine co_seq ?_
 refine dr_gen (fun x => But (fun q => q = b ∨ q = c) w x ∧ Blk x b 180 #[.string k, .slice v.a v.n v.c, .int .i64 d, pt c 0, (ptT r)]) (by kernel_rfl) (fun w2 hg3 => ?_) (fun w2 hg3 => ?_)
 ·
  have hz4 := hg3.size
  have hB5 := fbU_new hB0 hg3
  have hk6 := hB.kept hg3 (by simp)
  exact ⟨hB5, hk6⟩
 have hz7 := hg3.size
 have hB8 := fbU_new hB0 hg3
 have hk9 := hB.kept hg3 (by simp)
 refine dk0 0 (v := pt b 0) h1 rfl rfl ⟨hB8, hk9⟩ fun a10 h10 => ?_; clear h1
 refine dk0 1 (v := pt b 0) h10 rfl rfl ⟨hB8, hk9⟩ fun a11 h11 => ?_; clear h10
 refine dk0 2 (v := pt b 3) h11 rfl rfl ⟨hB8, hk9⟩ fun a12 h12 => ?_; clear h11
 refine dk 3 (v := pt c 0) h12 rfl rfl ⟨hB8, hk9⟩ (fun x hx => (rn_load1 rfl rfl Try.isAgg176 (hx.2.cell rfl))) fun a13 h13 => ?_; clear h12
 refine dk0 5 (v := pt b 0) h13 rfl rfl ⟨hB8, hk9⟩ fun a14 h14 => ?_; clear h13
 refine dk0 6 (v := pt b 0) h14 rfl rfl ⟨hB8, hk9⟩ fun a15 h15 => ?_; clear h14
 refine dk0 7 (v := pt b 4) h15 rfl rfl ⟨hB8, hk9⟩ fun a16 h16 => ?_; clear h15
 refine dk 8 (v := (ptT r)) h16 rfl rfl ⟨hB8, hk9⟩ (fun x hx => (rn_load1 rfl rfl Try.isAgg176 (hx.2.cell rfl))) fun a17 h17 => ?_; clear h16
 have hk20 := hC.kept hg3 (by simp)
 refine d1 4 h17 rfl rfl (op_call (args := #[pt c 0]) (R := fun res xw => res = .int .i64 d2 ∧ w2 = xw) rfl rfl rfl (by kernel_rfl) (by kernel_rfl) (Try.call135 _ _) (deep_blk w2 hk20) (by rintro e x ⟨rfl, rfl⟩; exact ⟨_, rfl, rfl, rfl⟩)) ?_ ?_; clear h17
 ·
  rintro _ _ ⟨rfl, rfl⟩
  exact ⟨hB8, hk9⟩
 rintro _ _ a18 ⟨rfl, rfl⟩ h18
 have hT23 := hr.gr hg3 (fun q e => by cases e)
 refine d1 9 h18 rfl rfl (op_call (args := #[(ptT r)]) (R := fun res xw => res = .int .i64 (dp r) ∧ w2 = xw) rfl rfl rfl (by kernel_rfl) (by kernel_rfl) (Try.call135 _ _) (deep_any r w2 hT23) (by rintro e x ⟨rfl, rfl⟩; exact ⟨_, rfl, rfl, rfl⟩)) ?_ ?_; clear h18
 ·
  rintro _ _ ⟨rfl, rfl⟩
  exact ⟨hB8, hk9⟩
 rintro _ _ a21 ⟨rfl, rfl⟩ h21
 refine dk 10 (v := .int .i64 (d2 - (dp r))) h21 rfl rfl ⟨hB8, hk9⟩ (fun x hx => (rn_arith rfl rfl rfl rfl rfl rfl (IntWalk.i64_in _ (by omega)))) fun a24 h24 => ?_; clear h21
 refine dr_done (by kernel_rfl) ?_
 refine co_then ?_
 refine wp_block ?_
 refine co_seq ?_
 refine co_reg ?_
 refine pk0 (v := .bool (d2 - (dp r) == 2)) h24 rfl fun a25 h25 => ?_; clear h24
 refine pk0 (v := .bool (d2 - (dp r) == 2)) h25 rfl fun a26 h26 => ?_; clear h25
 refine pl_nil ?_
 refine co_then ?_
 have hc27 : (d2 - (dp r) == 2) = true := by first | (simp; done) | (simp; omega) | exact beq_false_of_ne (by omega) | exact beq_iff_eq.2 (by omega)
 rw [hc27] at h26; clear hc27
 refine co_true h26 rfl ?_
 refine co_seq ?_
 refine co_seq ?_
 refine dr_gen (fun x => But (fun q => q = b ∨ q = c) w x ∧ Blk x b 180 #[.string k, .slice v.a v.n v.c, .int .i64 d, pt c 0, (ptT r)] ∧ Blk x c 180 #[.string k2, .slice v2.a v2.n v2.c, .int .i64 d2, (ptT ll), (ptT lr)]) (by kernel_rfl) (fun w28 hg29 => ?_) (fun w28 hg29 => ?_)
 ·
  have hz30 := hg29.size
  have hB31 := fbU_new hB8 hg29
  have hk32 := hk9.kept hg29 (by simp)
  have hk33 := hk20.kept hg29 (by simp)
  exact ⟨hB31, hk32, hk33⟩
 have hz34 := hg29.size
 have hB35 := fbU_new hB8 hg29
 have hk36 := hk9.kept hg29 (by simp)
 have hk37 := hk20.kept hg29 (by simp)
 refine dk0 0 (v := pt b 0) h26 rfl rfl ⟨hB35, hk36, hk37⟩ fun a38 h38 => ?_; clear h26
 refine dk0 1 (v := pt b 0) h38 rfl rfl ⟨hB35, hk36, hk37⟩ fun a39 h39 => ?_; clear h38
 refine dk0 2 (v := pt b 3) h39 rfl rfl ⟨hB35, hk36, hk37⟩ fun a40 h40 => ?_; clear h39
 refine dk 3 (v := pt c 0) h40 rfl rfl ⟨hB35, hk36, hk37⟩ (fun x hx => (rn_load1 rfl rfl Try.isAgg176 (hx.2.1.cell rfl))) fun a41 h41 => ?_; clear h40
 refine dk0 4 (v := pt c 0) h41 rfl rfl ⟨hB35, hk36, hk37⟩ fun a42 h42 => ?_; clear h41
 refine dk0 5 (v := pt c 3) h42 rfl rfl ⟨hB35, hk36, hk37⟩ fun a43 h43 => ?_; clear h42
 refine dk 6 (v := (ptT ll)) h43 rfl rfl ⟨hB35, hk36, hk37⟩ (fun x hx => (rn_load1 rfl rfl Try.isAgg176 (hx.2.2.cell rfl))) fun a44 h44 => ?_; clear h43
 refine dk0 8 (v := pt b 0) h44 rfl rfl ⟨hB35, hk36, hk37⟩ fun a45 h45 => ?_; clear h44
 refine dk0 9 (v := pt b 0) h45 rfl rfl ⟨hB35, hk36, hk37⟩ fun a46 h46 => ?_; clear h45
 refine dk0 10 (v := pt b 3) h46 rfl rfl ⟨hB35, hk36, hk37⟩ fun a47 h47 => ?_; clear h46
 refine dk 11 (v := pt c 0) h47 rfl rfl ⟨hB35, hk36, hk37⟩ (fun x hx => (rn_load1 rfl rfl Try.isAgg176 (hx.2.1.cell rfl))) fun a48 h48 => ?_; clear h47
 refine dk0 12 (v := pt c 0) h48 rfl rfl ⟨hB35, hk36, hk37⟩ fun a49 h49 => ?_; clear h48
 refine dk0 13 (v := pt c 4) h49 rfl rfl ⟨hB35, hk36, hk37⟩ fun a50 h50 => ?_; clear h49
 refine dk 14 (v := (ptT lr)) h50 rfl rfl ⟨hB35, hk36, hk37⟩ (fun x hx => (rn_load1 rfl rfl Try.isAgg176 (hx.2.2.cell rfl))) fun a51 h51 => ?_; clear h50
 have hT54 := hll.gr hg3 (fun q e => by cases e)
 have hT55 := hT54.gr hg29 (fun q e => by cases e)
 refine d1 7 h51 rfl rfl (op_call (args := #[(ptT ll)]) (R := fun res xw => res = .int .i64 (dp ll) ∧ w28 = xw) rfl rfl rfl (by kernel_rfl) (by kernel_rfl) (Try.call135 _ _) (deep_any ll w28 hT55) (by rintro e x ⟨rfl, rfl⟩; exact ⟨_, rfl, rfl, rfl⟩)) ?_ ?_; clear h51
 ·
  rintro _ _ ⟨rfl, rfl⟩
  exact ⟨hB35, hk36, hk37⟩
 rintro _ _ a52 ⟨rfl, rfl⟩ h52
 have hT58 := hlr.gr hg3 (fun q e => by cases e)
 have hT59 := hT58.gr hg29 (fun q e => by cases e)
 refine d1 15 h52 rfl rfl (op_call (args := #[(ptT lr)]) (R := fun res xw => res = .int .i64 (dp lr) ∧ w28 = xw) rfl rfl rfl (by kernel_rfl) (by kernel_rfl) (Try.call135 _ _) (deep_any lr w28 hT59) (by rintro e x ⟨rfl, rfl⟩; exact ⟨_, rfl, rfl, rfl⟩)) ?_ ?_; clear h52
 ·
  rintro _ _ ⟨rfl, rfl⟩
  exact ⟨hB35, hk36, hk37⟩
 rintro _ _ a56 ⟨rfl, rfl⟩ h56
 refine dk0 16 (v := .bool (decide (dp ll < dp lr))) h56 rfl rfl ⟨hB35, hk36, hk37⟩ fun a60 h60 => ?_; clear h56
 refine dr_done (by kernel_rfl) ?_
 refine co_then ?_
 have hc61 : (decide (dp ll < dp lr)) = false := decide_eq_false (by omega)
 rw [hc61] at h60; clear hc61
 refine co_false h60 rfl ?_
 refine wp_skip ?_
 refine co_then ?_
 refine co_seq ?_
 refine co_reg ?_
 refine pk0 (v := pt b 0) h60 rfl fun a62 h62 => ?_; clear h60
 have hT65 := hT23.gr hg29 (fun q e => by cases e)
 refine pw h62 rfl (op_call (args := #[pt b 0]) (R := fun res xw => res = pt c 0 ∧ Blk xw b 180 #[.string k, .slice v.a v.n v.c, .int .i64 (1 + mx (dp lr) (dp r)), (ptT lr), (ptT r)] ∧ Blk xw c 180 #[.string k2, .slice v2.a v2.n v2.c, .int .i64 (1 + mx (dp ll) (1 + mx (dp lr) (dp r))), (ptT ll), pt b 0] ∧ But (fun q => q = b ∨ q = c) w28 xw) rfl rfl rfl (by kernel_rfl) (by kernel_rfl) (Try.call137 _ _) (upL_any b c ll k2 v2 d2 lr k v d r w28 hk36 hk37 hT55 hT59 hT65 hnebc n_b_ll n_b_lr n_b_r n_c_ll n_c_lr n_c_r (show 0 ≤ (dp ll) ∧ (dp ll) ≤ 990000 from ⟨by omega, by omega⟩) (show 0 ≤ (dp lr) ∧ (dp lr) ≤ 990000 from ⟨by omega, by omega⟩) (show 0 ≤ (dp r) ∧ (dp r) ≤ 990000 from ⟨by omega, by omega⟩)) (by rintro e x ⟨rfl, h1, h2, h3⟩; exact ⟨_, rfl, rfl, h1, h2, h3⟩)) ?_; clear h62
 rintro _ w64 a63 ⟨rfl, hq66, hq67, hb68⟩ h63
 obtain ⟨d69, hd70⟩ : ∃ z : Int, z = 1 + mx (dp lr) (dp r) := ⟨_, rfl⟩; rw [← hd70] at hq66 hq67
 have hd70b := mx_bd3 (a := (dp lr)) (b := (dp r))
 obtain ⟨d71, hd72⟩ : ∃ z : Int, z = 1 + mx (dp ll) d69 := ⟨_, rfl⟩; rw [← hd72] at hq67
 have hd72b := mx_bd3 (a := (dp ll)) (b := d69)
 have hB73 := fbU_foot hB35 hb68 (fun i hi hS => by rcases hS with rfl | rfl <;> simp)
 have hz74 := hb68.size
 refine pk0 (v := pt c 0) h63 rfl fun a75 h75 => ?_; clear h63
 refine pl_nil ?_
 refine co_then ?_
 refine wp_ret ?_
 refine co_blockR ?_
 refine co_thenR ?_
 refine co_ret1 h75 rfl rfl ?_
 have hT76 := TreeAt.but hT55 hb68 (fun q hq => fun hq2 => by rcases hq2 with hq2 | hq2; exact (fun e : q = b => n_b_ll (e ▸ hq)) hq2; exact (fun e : q = c => n_c_ll (e ▸ hq)) hq2)
 have hT77 := TreeAt.but hT59 hb68 (fun q hq => fun hq2 => by rcases hq2 with hq2 | hq2; exact (fun e : q = b => n_b_lr (e ▸ hq)) hq2; exact (fun e : q = c => n_c_lr (e ▸ hq)) hq2)
 have hT78 := TreeAt.but hT65 hb68 (fun q hq => fun hq2 => by rcases hq2 with hq2 | hq2; exact (fun e : q = b => n_b_r (e ▸ hq)) hq2; exact (fun e : q = c => n_c_r (e ▸ hq)) hq2)
 subst hd70
 subst hd72
 exact ⟨rfl, hq66, hq67, hT76, hT77, hT78, hB73⟩
set_option maxRecDepth 100000 in
theorem balB_any (b : Nat) (c : Nat) (g : Nat) (ll : Tm) (el : Tm) (er : Tm) (r : Tm) (k : ByteArray) (v : SlT) (d : Int) (k2 : ByteArray) (v2 : SlT) (d2 : Int) (k3 : ByteArray) (v3 : SlT) (d3 : Int) (w : World) (hB : Blk w b 180 #[.string k, .slice v.a v.n v.c, .int .i64 d, pt c 0, (ptT r)]) (hC : Blk w c 180 #[.string k2, .slice v2.a v2.n v2.c, .int .i64 d2, (ptT ll), pt g 0]) (hE : Blk w g 180 #[.string k3, .slice v3.a v3.n v3.c, .int .i64 d3, (ptT el), (ptT er)]) (hll : TreeAt w ll) (hel : TreeAt w el) (her : TreeAt w er) (hr : TreeAt w r) (hnebc : b ≠ c) (hnebg : b ≠ g) (hnecg : c ≠ g) (n_b_ll : b ∉ bk ll) (n_b_el : b ∉ bk el) (n_b_er : b ∉ bk er) (n_b_r : b ∉ bk r) (n_c_ll : c ∉ bk ll) (n_c_el : c ∉ bk el) (n_c_er : c ∉ bk er) (n_c_r : c ∉ bk r) (n_g_ll : g ∉ bk ll) (n_g_el : g ∉ bk el) (n_g_er : g ∉ bk er) (n_g_r : g ∉ bk r) (hdll : 0 ≤ dp ll ∧ dp ll ≤ 900000) (hdel : 0 ≤ dp el ∧ dp el ≤ 900000) (hder : 0 ≤ dp er ∧ dp er ≤ 900000) (hdr : 0 ≤ dp r ∧ dp r ≤ 900000) (hd2 : 0 ≤ d2 ∧ d2 ≤ 900000) (hd3 : 0 ≤ d3 ∧ d3 ≤ 900000) (hdif : d2 - dp r = 2) (hcmp : dp ll < d3) :
    Calls Try.prog 121 #[pt b 0] w fun e w' => e = .returned (pt g 0) ∧ Blk w' b 180 #[.string k, .slice v.a v.n v.c, .int .i64 (1 + mx (dp er) (dp r)), ptT er, ptT r] ∧ Blk w' c 180 #[.string k2, .slice v2.a v2.n v2.c, .int .i64 (1 + mx (dp ll) (dp el)), ptT ll, ptT el] ∧ Blk w' g 180 #[.string k3, .slice v3.a v3.n v3.c, .int .i64 (1 + mx (1 + mx (dp ll) (dp el)) (1 + mx (dp er) (dp r))), pt c 0, pt b 0] ∧ TreeAt w' ll ∧ TreeAt w' el ∧ TreeAt w' er ∧ TreeAt w' r ∧ But (fun q => q = b ∨ q = c ∨ q = g) w w' := by
 have hB0 := But.refl (fun q => q = b ∨ q = c ∨ q = g) w
 have hl_hB := hB.lt
 have hl_hC := hC.lt
 have hl_hE := hE.lt
 have hSb : (fun q => q = b ∨ q = c ∨ q = g) b ∨ w.heap.size ≤ b := .inl (by simp)
 have hSc : (fun q => q = b ∨ q = c ∨ q = g) c ∨ w.heap.size ≤ c := .inl (by simp)
 have hSg : (fun q => q = b ∨ q = c ∨ q = g) g ∨ w.heap.size ≤ g := .inl (by simp)
 refine co_enter (n := 75) Try.func121 rfl rfl rfl [(0, pt b 0)] rfl (fun a h0 => ?_)
 refine co_seq ?_
 refine co_reg ?_
 refine pk0 (v := .pointer none) h0 rfl fun a1 h1 => ?_; clear h0
 refine pl_nil ?_
 refine co_then ?_
 refine co_seq ?_
 refine co_seq ?_
 refine dr_gen (fun x => But (fun q => q = b ∨ q = c ∨ q = g) w x ∧ Blk x b 180 #[.string k, .slice v.a v.n v.c, .int .i64 d, pt c 0, (ptT r)]) (by kernel_rfl) (fun w2 hg3 => ?_) (fun w2 hg3 => ?_)
 ·
  have hz4 := hg3.size
  have hB5 := fbU_new hB0 hg3
  have hk6 := hB.kept hg3 (by simp)
  exact ⟨hB5, hk6⟩
 have hz7 := hg3.size
 have hB8 := fbU_new hB0 hg3
 have hk9 := hB.kept hg3 (by simp)
 refine dk0 0 (v := pt b 0) h1 rfl rfl ⟨hB8, hk9⟩ fun a10 h10 => ?_; clear h1
 refine dk0 1 (v := pt b 0) h10 rfl rfl ⟨hB8, hk9⟩ fun a11 h11 => ?_; clear h10
 refine dk0 2 (v := pt b 3) h11 rfl rfl ⟨hB8, hk9⟩ fun a12 h12 => ?_; clear h11
 refine dk 3 (v := pt c 0) h12 rfl rfl ⟨hB8, hk9⟩ (fun x hx => (rn_load1 rfl rfl Try.isAgg176 (hx.2.cell rfl))) fun a13 h13 => ?_; clear h12
 refine dk0 5 (v := pt b 0) h13 rfl rfl ⟨hB8, hk9⟩ fun a14 h14 => ?_; clear h13
 refine dk0 6 (v := pt b 0) h14 rfl rfl ⟨hB8, hk9⟩ fun a15 h15 => ?_; clear h14
 refine dk0 7 (v := pt b 4) h15 rfl rfl ⟨hB8, hk9⟩ fun a16 h16 => ?_; clear h15
 refine dk 8 (v := (ptT r)) h16 rfl rfl ⟨hB8, hk9⟩ (fun x hx => (rn_load1 rfl rfl Try.isAgg176 (hx.2.cell rfl))) fun a17 h17 => ?_; clear h16
 have hk20 := hC.kept hg3 (by simp)
 refine d1 4 h17 rfl rfl (op_call (args := #[pt c 0]) (R := fun res xw => res = .int .i64 d2 ∧ w2 = xw) rfl rfl rfl (by kernel_rfl) (by kernel_rfl) (Try.call135 _ _) (deep_blk w2 hk20) (by rintro e x ⟨rfl, rfl⟩; exact ⟨_, rfl, rfl, rfl⟩)) ?_ ?_; clear h17
 ·
  rintro _ _ ⟨rfl, rfl⟩
  exact ⟨hB8, hk9⟩
 rintro _ _ a18 ⟨rfl, rfl⟩ h18
 have hT23 := hr.gr hg3 (fun q e => by cases e)
 refine d1 9 h18 rfl rfl (op_call (args := #[(ptT r)]) (R := fun res xw => res = .int .i64 (dp r) ∧ w2 = xw) rfl rfl rfl (by kernel_rfl) (by kernel_rfl) (Try.call135 _ _) (deep_any r w2 hT23) (by rintro e x ⟨rfl, rfl⟩; exact ⟨_, rfl, rfl, rfl⟩)) ?_ ?_; clear h18
 ·
  rintro _ _ ⟨rfl, rfl⟩
  exact ⟨hB8, hk9⟩
 rintro _ _ a21 ⟨rfl, rfl⟩ h21
 refine dk 10 (v := .int .i64 (d2 - (dp r))) h21 rfl rfl ⟨hB8, hk9⟩ (fun x hx => (rn_arith rfl rfl rfl rfl rfl rfl (IntWalk.i64_in _ (by omega)))) fun a24 h24 => ?_; clear h21
 refine dr_done (by kernel_rfl) ?_
 refine co_then ?_
 refine wp_block ?_
 refine co_seq ?_
 refine co_reg ?_
 refine pk0 (v := .bool (d2 - (dp r) == 2)) h24 rfl fun a25 h25 => ?_; clear h24
 refine pk0 (v := .bool (d2 - (dp r) == 2)) h25 rfl fun a26 h26 => ?_; clear h25
 refine pl_nil ?_
 refine co_then ?_
 have hc27 : (d2 - (dp r) == 2) = true := by first | (simp; done) | (simp; omega) | exact beq_false_of_ne (by omega) | exact beq_iff_eq.2 (by omega)
 rw [hc27] at h26; clear hc27
 refine co_true h26 rfl ?_
 refine co_seq ?_
 refine co_seq ?_
 refine dr_gen (fun x => But (fun q => q = b ∨ q = c ∨ q = g) w x ∧ Blk x b 180 #[.string k, .slice v.a v.n v.c, .int .i64 d, pt c 0, (ptT r)] ∧ Blk x c 180 #[.string k2, .slice v2.a v2.n v2.c, .int .i64 d2, (ptT ll), pt g 0]) (by kernel_rfl) (fun w28 hg29 => ?_) (fun w28 hg29 => ?_)
 ·
  have hz30 := hg29.size
  have hB31 := fbU_new hB8 hg29
  have hk32 := hk9.kept hg29 (by simp)
  have hk33 := hk20.kept hg29 (by simp)
  exact ⟨hB31, hk32, hk33⟩
 have hz34 := hg29.size
 have hB35 := fbU_new hB8 hg29
 have hk36 := hk9.kept hg29 (by simp)
 have hk37 := hk20.kept hg29 (by simp)
 refine dk0 0 (v := pt b 0) h26 rfl rfl ⟨hB35, hk36, hk37⟩ fun a38 h38 => ?_; clear h26
 refine dk0 1 (v := pt b 0) h38 rfl rfl ⟨hB35, hk36, hk37⟩ fun a39 h39 => ?_; clear h38
 refine dk0 2 (v := pt b 3) h39 rfl rfl ⟨hB35, hk36, hk37⟩ fun a40 h40 => ?_; clear h39
 refine dk 3 (v := pt c 0) h40 rfl rfl ⟨hB35, hk36, hk37⟩ (fun x hx => (rn_load1 rfl rfl Try.isAgg176 (hx.2.1.cell rfl))) fun a41 h41 => ?_; clear h40
 refine dk0 4 (v := pt c 0) h41 rfl rfl ⟨hB35, hk36, hk37⟩ fun a42 h42 => ?_; clear h41
 refine dk0 5 (v := pt c 3) h42 rfl rfl ⟨hB35, hk36, hk37⟩ fun a43 h43 => ?_; clear h42
 refine dk 6 (v := (ptT ll)) h43 rfl rfl ⟨hB35, hk36, hk37⟩ (fun x hx => (rn_load1 rfl rfl Try.isAgg176 (hx.2.2.cell rfl))) fun a44 h44 => ?_; clear h43
 refine dk0 8 (v := pt b 0) h44 rfl rfl ⟨hB35, hk36, hk37⟩ fun a45 h45 => ?_; clear h44
 refine dk0 9 (v := pt b 0) h45 rfl rfl ⟨hB35, hk36, hk37⟩ fun a46 h46 => ?_; clear h45
 refine dk0 10 (v := pt b 3) h46 rfl rfl ⟨hB35, hk36, hk37⟩ fun a47 h47 => ?_; clear h46
 refine dk 11 (v := pt c 0) h47 rfl rfl ⟨hB35, hk36, hk37⟩ (fun x hx => (rn_load1 rfl rfl Try.isAgg176 (hx.2.1.cell rfl))) fun a48 h48 => ?_; clear h47
 refine dk0 12 (v := pt c 0) h48 rfl rfl ⟨hB35, hk36, hk37⟩ fun a49 h49 => ?_; clear h48
 refine dk0 13 (v := pt c 4) h49 rfl rfl ⟨hB35, hk36, hk37⟩ fun a50 h50 => ?_; clear h49
 refine dk 14 (v := pt g 0) h50 rfl rfl ⟨hB35, hk36, hk37⟩ (fun x hx => (rn_load1 rfl rfl Try.isAgg176 (hx.2.2.cell rfl))) fun a51 h51 => ?_; clear h50
 have hT54 := hll.gr hg3 (fun q e => by cases e)
 have hT55 := hT54.gr hg29 (fun q e => by cases e)
 refine d1 7 h51 rfl rfl (op_call (args := #[(ptT ll)]) (R := fun res xw => res = .int .i64 (dp ll) ∧ w28 = xw) rfl rfl rfl (by kernel_rfl) (by kernel_rfl) (Try.call135 _ _) (deep_any ll w28 hT55) (by rintro e x ⟨rfl, rfl⟩; exact ⟨_, rfl, rfl, rfl⟩)) ?_ ?_; clear h51
 ·
  rintro _ _ ⟨rfl, rfl⟩
  exact ⟨hB35, hk36, hk37⟩
 rintro _ _ a52 ⟨rfl, rfl⟩ h52
 have hk58 := hE.kept hg3 (by simp)
 have hk59 := hk58.kept hg29 (by simp)
 refine d1 15 h52 rfl rfl (op_call (args := #[pt g 0]) (R := fun res xw => res = .int .i64 d3 ∧ w28 = xw) rfl rfl rfl (by kernel_rfl) (by kernel_rfl) (Try.call135 _ _) (deep_blk w28 hk59) (by rintro e x ⟨rfl, rfl⟩; exact ⟨_, rfl, rfl, rfl⟩)) ?_ ?_; clear h52
 ·
  rintro _ _ ⟨rfl, rfl⟩
  exact ⟨hB35, hk36, hk37⟩
 rintro _ _ a56 ⟨rfl, rfl⟩ h56
 refine dk0 16 (v := .bool (decide (dp ll < d3))) h56 rfl rfl ⟨hB35, hk36, hk37⟩ fun a60 h60 => ?_; clear h56
 refine dr_done (by kernel_rfl) ?_
 refine co_then ?_
 have hc61 : (decide (dp ll < d3)) = true := decide_eq_true (by omega)
 rw [hc61] at h60; clear hc61
 refine co_true h60 rfl ?_
 refine co_reg ?_
 refine pk0 (v := pt b 0) h60 rfl fun a62 h62 => ?_; clear h60
 refine pk0 (v := pt b 0) h62 rfl fun a63 h63 => ?_; clear h62
 refine pk0 (v := pt b 0) h63 rfl fun a64 h64 => ?_; clear h63
 refine pk0 (v := pt b 3) h64 rfl fun a65 h65 => ?_; clear h64
 refine pk (v := pt c 0) h65 rfl (rn_load1 rfl rfl Try.isAgg176 (hk36.cell rfl)) fun a66 h66 => ?_; clear h65
 have hT69 := hel.gr hg3 (fun q e => by cases e)
 have hT70 := hT69.gr hg29 (fun q e => by cases e)
 have hT71 := her.gr hg3 (fun q e => by cases e)
 have hT72 := hT71.gr hg29 (fun q e => by cases e)
 refine pw h66 rfl (op_call (args := #[pt c 0]) (R := fun res xw => res = pt g 0 ∧ Blk xw c 180 #[.string k2, .slice v2.a v2.n v2.c, .int .i64 (1 + mx (dp ll) (dp el)), (ptT ll), (ptT el)] ∧ Blk xw g 180 #[.string k3, .slice v3.a v3.n v3.c, .int .i64 (1 + mx (1 + mx (dp ll) (dp el)) (dp er)), pt c 0, (ptT er)] ∧ But (fun q => q = c ∨ q = g) w28 xw) rfl rfl rfl (by kernel_rfl) (by kernel_rfl) (Try.call136 _ _) (upR_any c g er k3 v3 d3 el k2 v2 d2 ll w28 hk37 hk59 hT72 hT70 hT55 hnecg n_c_er n_c_el n_c_ll n_g_er n_g_el n_g_ll (show 0 ≤ (dp er) ∧ (dp er) ≤ 990000 from ⟨by omega, by omega⟩) (show 0 ≤ (dp el) ∧ (dp el) ≤ 990000 from ⟨by omega, by omega⟩) (show 0 ≤ (dp ll) ∧ (dp ll) ≤ 990000 from ⟨by omega, by omega⟩)) (by rintro e x ⟨rfl, h1, h2, h3⟩; exact ⟨_, rfl, rfl, h1, h2, h3⟩)) ?_; clear h66
 rintro _ w68 a67 ⟨rfl, hq73, hq74, hb75⟩ h67
 obtain ⟨d76, hd77⟩ : ∃ z : Int, z = 1 + mx (dp ll) (dp el) := ⟨_, rfl⟩; rw [← hd77] at hq73 hq74
 have hd77b := mx_bd3 (a := (dp ll)) (b := (dp el))
 obtain ⟨d78, hd79⟩ : ∃ z : Int, z = 1 + mx d76 (dp er) := ⟨_, rfl⟩; rw [← hd79] at hq74
 have hd79b := mx_bd3 (a := d76) (b := (dp er))
 have hB80 := fbU_foot hB35 hb75 (fun i hi hS => by rcases hS with rfl | rfl <;> simp)
 have hz81 := hb75.size
 refine pk0 (v := pt b 0) h67 rfl fun a82 h82 => ?_; clear h67
 refine pk0 (v := pt b 3) h82 rfl fun a83 h83 => ?_; clear h82
 have hk89 := Blk.butS hk36 hb75 (fun hq => by rcases hq with hq | hq; exact absurd hq hnebc; exact absurd hq hnebg)
 refine pwD h83 rfl (op_store1 rfl rfl rfl rfl Try.sizeOf176 hk89 rfl) ?_; clear h83
 rintro _ w85 a84 ⟨hk86, hz87, hg88⟩ h84
 have hk86' : Blk w85 b 180 #[.string k, .slice v.a v.n v.c, .int .i64 d, pt g 0, (ptT r)] := hk86; clear hk86
 have hz90 := hg88.size
 refine pl_nil ?_
 refine co_then ?_
 refine co_seq ?_
 refine co_reg ?_
 refine pk0 (v := pt b 0) h84 rfl fun a91 h91 => ?_; clear h84
 have hB94 := fbU_at hB80 hg88 (fun hlt => by rcases hSb with hq | hq; exact hq; omega)
 have hT95 := TreeAt.but hT55 hb75 (fun q hq => fun hq2 => by rcases hq2 with hq2 | hq2; exact (fun e : q = c => n_c_ll (e ▸ hq)) hq2; exact (fun e : q = g => n_g_ll (e ▸ hq)) hq2)
 have hT96 := hT95.gr hg88 (fun q e => by cases e; exact n_b_ll)
 have hT97 := TreeAt.but hT70 hb75 (fun q hq => fun hq2 => by rcases hq2 with hq2 | hq2; exact (fun e : q = c => n_c_el (e ▸ hq)) hq2; exact (fun e : q = g => n_g_el (e ▸ hq)) hq2)
 have hT98 := hT97.gr hg88 (fun q e => by cases e; exact n_b_el)
 have hT99 := TreeAt.but hT72 hb75 (fun q hq => fun hq2 => by rcases hq2 with hq2 | hq2; exact (fun e : q = c => n_c_er (e ▸ hq)) hq2; exact (fun e : q = g => n_g_er (e ▸ hq)) hq2)
 have hT100 := hT99.gr hg88 (fun q e => by cases e; exact n_b_er)
 have hT101 := hT23.gr hg29 (fun q e => by cases e)
 have hT102 := TreeAt.but hT101 hb75 (fun q hq => fun hq2 => by rcases hq2 with hq2 | hq2; exact (fun e : q = c => n_c_r (e ▸ hq)) hq2; exact (fun e : q = g => n_g_r (e ▸ hq)) hq2)
 have hT103 := hT102.gr hg88 (fun q e => by cases e; exact n_b_r)
 have hk104 := hq73.kept hg88 (by simp; omega)
 have hk112 := hq74.kept hg88 (by simp; omega)
 refine pw h91 rfl (op_call (args := #[pt b 0]) (R := fun res xw => res = pt g 0 ∧ Blk xw b 180 #[.string k, .slice v.a v.n v.c, .int .i64 (1 + mx (dp er) (dp r)), (ptT er), (ptT r)] ∧ Blk xw g 180 #[.string k3, .slice v3.a v3.n v3.c, .int .i64 (1 + mx d76 (1 + mx (dp er) (dp r))), pt c 0, pt b 0] ∧ But (fun q => q = b ∨ q = g) w85 xw) rfl rfl rfl (by kernel_rfl) (by kernel_rfl) (Try.call137 _ _) (upL_any b g (Tm.nd c ll k2 v2 d76 el) k3 v3 d78 er k v d r w85 hk86' hk112 ⟨hk104, hT96, hT98⟩ hT100 hT103 hnebg (nin_nd hnebc n_b_ll n_b_el) n_b_er n_b_r (nin_nd (Ne.symm hnecg) n_g_ll n_g_el) n_g_er n_g_r (show 0 ≤ d76 ∧ d76 ≤ 990000 from ⟨by omega, by omega⟩) (show 0 ≤ (dp er) ∧ (dp er) ≤ 990000 from ⟨by omega, by omega⟩) (show 0 ≤ (dp r) ∧ (dp r) ≤ 990000 from ⟨by omega, by omega⟩)) (by rintro e x ⟨rfl, h1, h2, h3⟩; exact ⟨_, rfl, rfl, h1, h2, h3⟩)) ?_; clear h91
 rintro _ w93 a92 ⟨rfl, hq105, hq106, hb107⟩ h92
 obtain ⟨d108, hd109⟩ : ∃ z : Int, z = 1 + mx (dp er) (dp r) := ⟨_, rfl⟩; rw [← hd109] at hq105 hq106
 have hd109b := mx_bd3 (a := (dp er)) (b := (dp r))
 obtain ⟨d110, hd111⟩ : ∃ z : Int, z = 1 + mx d76 d108 := ⟨_, rfl⟩; rw [← hd111] at hq106
 have hd111b := mx_bd3 (a := d76) (b := d108)
 have hB113 := fbU_foot hB94 hb107 (fun i hi hS => by rcases hS with rfl | rfl <;> simp)
 have hz114 := hb107.size
 refine pk0 (v := pt g 0) h92 rfl fun a115 h115 => ?_; clear h92
 refine pl_nil ?_
 refine co_then ?_
 refine wp_ret ?_
 refine co_blockR ?_
 refine co_thenR ?_
 refine co_ret1 h115 rfl rfl ?_
 have hk116 := Blk.butS hk104 hb107 (fun hq => by rcases hq with hq | hq; exact absurd hq (Ne.symm hnebc); exact absurd hq hnecg)
 have hT117 := TreeAt.but hT96 hb107 (fun q hq => fun hq2 => by rcases hq2 with hq2 | hq2; exact (fun e : q = b => n_b_ll (e ▸ hq)) hq2; exact (fun e : q = g => n_g_ll (e ▸ hq)) hq2)
 have hT118 := TreeAt.but hT98 hb107 (fun q hq => fun hq2 => by rcases hq2 with hq2 | hq2; exact (fun e : q = b => n_b_el (e ▸ hq)) hq2; exact (fun e : q = g => n_g_el (e ▸ hq)) hq2)
 have hT119 := TreeAt.but hT100 hb107 (fun q hq => fun hq2 => by rcases hq2 with hq2 | hq2; exact (fun e : q = b => n_b_er (e ▸ hq)) hq2; exact (fun e : q = g => n_g_er (e ▸ hq)) hq2)
 have hT120 := TreeAt.but hT103 hb107 (fun q hq => fun hq2 => by rcases hq2 with hq2 | hq2; exact (fun e : q = b => n_b_r (e ▸ hq)) hq2; exact (fun e : q = g => n_g_r (e ▸ hq)) hq2)
 subst hd109
 subst hd111
 subst hd77
 subst hd79
 exact ⟨rfl, hq105, hk116, hq106, hT117, hT118, hT119, hT120, hB113⟩
set_option maxRecDepth 100000 in
theorem balC_any (b : Nat) (c : Nat) (ll : Tm) (lr : Tm) (r : Tm) (k : ByteArray) (v : SlT) (d : Int) (k2 : ByteArray) (v2 : SlT) (d2 : Int) (w : World) (hB : Blk w b 180 #[.string k, .slice v.a v.n v.c, .int .i64 d, (ptT r), pt c 0]) (hC : Blk w c 180 #[.string k2, .slice v2.a v2.n v2.c, .int .i64 d2, (ptT lr), (ptT ll)]) (hll : TreeAt w ll) (hlr : TreeAt w lr) (hr : TreeAt w r) (hnebc : b ≠ c) (n_b_ll : b ∉ bk ll) (n_b_lr : b ∉ bk lr) (n_b_r : b ∉ bk r) (n_c_ll : c ∉ bk ll) (n_c_lr : c ∉ bk lr) (n_c_r : c ∉ bk r) (hdll : 0 ≤ dp ll ∧ dp ll ≤ 900000) (hdlr : 0 ≤ dp lr ∧ dp lr ≤ 900000) (hdr : 0 ≤ dp r ∧ dp r ≤ 900000) (hd2 : 0 ≤ d2 ∧ d2 ≤ 900000) (hdif : dp r - d2 = -2) (hcmp : ¬ (dp ll < dp lr)) :
    Calls Try.prog 121 #[pt b 0] w fun e w' => e = .returned (pt c 0) ∧ Blk w' b 180 #[.string k, .slice v.a v.n v.c, .int .i64 (1 + mx (dp r) (dp lr)), ptT r, ptT lr] ∧ Blk w' c 180 #[.string k2, .slice v2.a v2.n v2.c, .int .i64 (1 + mx (1 + mx (dp r) (dp lr)) (dp ll)), pt b 0, ptT ll] ∧ TreeAt w' ll ∧ TreeAt w' lr ∧ TreeAt w' r ∧ But (fun q => q = b ∨ q = c) w w' := by
 have hB0 := But.refl (fun q => q = b ∨ q = c) w
 have hl_hB := hB.lt
 have hl_hC := hC.lt
 have hSb : (fun q => q = b ∨ q = c) b ∨ w.heap.size ≤ b := .inl (by simp)
 have hSc : (fun q => q = b ∨ q = c) c ∨ w.heap.size ≤ c := .inl (by simp)
 refine co_enter (n := 75) Try.func121 rfl rfl rfl [(0, pt b 0)] rfl (fun a h0 => ?_)
 refine co_seq ?_
 refine co_reg ?_
 refine pk0 (v := .pointer none) h0 rfl fun a1 h1 => ?_; clear h0
 refine pl_nil ?_
 refine co_then ?_
 refine co_seq ?_
 refine co_seq ?_
 refine dr_gen (fun x => But (fun q => q = b ∨ q = c) w x ∧ Blk x b 180 #[.string k, .slice v.a v.n v.c, .int .i64 d, (ptT r), pt c 0]) (by kernel_rfl) (fun w2 hg3 => ?_) (fun w2 hg3 => ?_)
 ·
  have hz4 := hg3.size
  have hB5 := fbU_new hB0 hg3
  have hk6 := hB.kept hg3 (by simp)
  exact ⟨hB5, hk6⟩
 have hz7 := hg3.size
 have hB8 := fbU_new hB0 hg3
 have hk9 := hB.kept hg3 (by simp)
 refine dk0 0 (v := pt b 0) h1 rfl rfl ⟨hB8, hk9⟩ fun a10 h10 => ?_; clear h1
 refine dk0 1 (v := pt b 0) h10 rfl rfl ⟨hB8, hk9⟩ fun a11 h11 => ?_; clear h10
 refine dk0 2 (v := pt b 3) h11 rfl rfl ⟨hB8, hk9⟩ fun a12 h12 => ?_; clear h11
 refine dk 3 (v := (ptT r)) h12 rfl rfl ⟨hB8, hk9⟩ (fun x hx => (rn_load1 rfl rfl Try.isAgg176 (hx.2.cell rfl))) fun a13 h13 => ?_; clear h12
 refine dk0 5 (v := pt b 0) h13 rfl rfl ⟨hB8, hk9⟩ fun a14 h14 => ?_; clear h13
 refine dk0 6 (v := pt b 0) h14 rfl rfl ⟨hB8, hk9⟩ fun a15 h15 => ?_; clear h14
 refine dk0 7 (v := pt b 4) h15 rfl rfl ⟨hB8, hk9⟩ fun a16 h16 => ?_; clear h15
 refine dk 8 (v := pt c 0) h16 rfl rfl ⟨hB8, hk9⟩ (fun x hx => (rn_load1 rfl rfl Try.isAgg176 (hx.2.cell rfl))) fun a17 h17 => ?_; clear h16
 have hT20 := hr.gr hg3 (fun q e => by cases e)
 refine d1 4 h17 rfl rfl (op_call (args := #[(ptT r)]) (R := fun res xw => res = .int .i64 (dp r) ∧ w2 = xw) rfl rfl rfl (by kernel_rfl) (by kernel_rfl) (Try.call135 _ _) (deep_any r w2 hT20) (by rintro e x ⟨rfl, rfl⟩; exact ⟨_, rfl, rfl, rfl⟩)) ?_ ?_; clear h17
 ·
  rintro _ _ ⟨rfl, rfl⟩
  exact ⟨hB8, hk9⟩
 rintro _ _ a18 ⟨rfl, rfl⟩ h18
 have hk23 := hC.kept hg3 (by simp)
 refine d1 9 h18 rfl rfl (op_call (args := #[pt c 0]) (R := fun res xw => res = .int .i64 d2 ∧ w2 = xw) rfl rfl rfl (by kernel_rfl) (by kernel_rfl) (Try.call135 _ _) (deep_blk w2 hk23) (by rintro e x ⟨rfl, rfl⟩; exact ⟨_, rfl, rfl, rfl⟩)) ?_ ?_; clear h18
 ·
  rintro _ _ ⟨rfl, rfl⟩
  exact ⟨hB8, hk9⟩
 rintro _ _ a21 ⟨rfl, rfl⟩ h21
 refine dk 10 (v := .int .i64 ((dp r) - d2)) h21 rfl rfl ⟨hB8, hk9⟩ (fun x hx => (rn_arith rfl rfl rfl rfl rfl rfl (IntWalk.i64_in _ (by omega)))) fun a24 h24 => ?_; clear h21
 refine dr_done (by kernel_rfl) ?_
 refine co_then ?_
 refine wp_block ?_
 refine co_seq ?_
 refine co_reg ?_
 refine pk0 (v := .bool ((dp r) - d2 == 2)) h24 rfl fun a25 h25 => ?_; clear h24
 refine pk0 (v := .bool ((dp r) - d2 == 2)) h25 rfl fun a26 h26 => ?_; clear h25
 refine pl_nil ?_
 refine co_then ?_
 have hc27 : ((dp r) - d2 == 2) = false := by first | (simp; done) | (simp; omega) | exact beq_false_of_ne (by omega) | exact beq_iff_eq.2 (by omega)
 rw [hc27] at h26; clear hc27
 refine co_false h26 rfl ?_
 refine co_seq ?_
 refine co_reg ?_
 refine pk0 (v := .bool ((dp r) - d2 == (-2))) h26 rfl fun a28 h28 => ?_; clear h26
 refine pk0 (v := .bool ((dp r) - d2 == (-2))) h28 rfl fun a29 h29 => ?_; clear h28
 refine pl_nil ?_
 refine co_then ?_
 have hc30 : ((dp r) - d2 == (-2)) = true := by first | (simp; done) | (simp; omega) | exact beq_false_of_ne (by omega) | exact beq_iff_eq.2 (by omega)
 rw [hc30] at h29; clear hc30
 refine co_true h29 rfl ?_
 refine co_seq ?_
 refine co_seq ?_
 refine dr_gen (fun x => But (fun q => q = b ∨ q = c) w x ∧ Blk x b 180 #[.string k, .slice v.a v.n v.c, .int .i64 d, (ptT r), pt c 0] ∧ Blk x c 180 #[.string k2, .slice v2.a v2.n v2.c, .int .i64 d2, (ptT lr), (ptT ll)]) (by kernel_rfl) (fun w31 hg32 => ?_) (fun w31 hg32 => ?_)
 ·
  have hz33 := hg32.size
  have hB34 := fbU_new hB8 hg32
  have hk35 := hk9.kept hg32 (by simp)
  have hk36 := hk23.kept hg32 (by simp)
  exact ⟨hB34, hk35, hk36⟩
 have hz37 := hg32.size
 have hB38 := fbU_new hB8 hg32
 have hk39 := hk9.kept hg32 (by simp)
 have hk40 := hk23.kept hg32 (by simp)
 refine dk0 0 (v := pt b 0) h29 rfl rfl ⟨hB38, hk39, hk40⟩ fun a41 h41 => ?_; clear h29
 refine dk0 1 (v := pt b 0) h41 rfl rfl ⟨hB38, hk39, hk40⟩ fun a42 h42 => ?_; clear h41
 refine dk0 2 (v := pt b 4) h42 rfl rfl ⟨hB38, hk39, hk40⟩ fun a43 h43 => ?_; clear h42
 refine dk 3 (v := pt c 0) h43 rfl rfl ⟨hB38, hk39, hk40⟩ (fun x hx => (rn_load1 rfl rfl Try.isAgg176 (hx.2.1.cell rfl))) fun a44 h44 => ?_; clear h43
 refine dk0 4 (v := pt c 0) h44 rfl rfl ⟨hB38, hk39, hk40⟩ fun a45 h45 => ?_; clear h44
 refine dk0 5 (v := pt c 4) h45 rfl rfl ⟨hB38, hk39, hk40⟩ fun a46 h46 => ?_; clear h45
 refine dk 6 (v := (ptT ll)) h46 rfl rfl ⟨hB38, hk39, hk40⟩ (fun x hx => (rn_load1 rfl rfl Try.isAgg176 (hx.2.2.cell rfl))) fun a47 h47 => ?_; clear h46
 refine dk0 8 (v := pt b 0) h47 rfl rfl ⟨hB38, hk39, hk40⟩ fun a48 h48 => ?_; clear h47
 refine dk0 9 (v := pt b 0) h48 rfl rfl ⟨hB38, hk39, hk40⟩ fun a49 h49 => ?_; clear h48
 refine dk0 10 (v := pt b 4) h49 rfl rfl ⟨hB38, hk39, hk40⟩ fun a50 h50 => ?_; clear h49
 refine dk 11 (v := pt c 0) h50 rfl rfl ⟨hB38, hk39, hk40⟩ (fun x hx => (rn_load1 rfl rfl Try.isAgg176 (hx.2.1.cell rfl))) fun a51 h51 => ?_; clear h50
 refine dk0 12 (v := pt c 0) h51 rfl rfl ⟨hB38, hk39, hk40⟩ fun a52 h52 => ?_; clear h51
 refine dk0 13 (v := pt c 3) h52 rfl rfl ⟨hB38, hk39, hk40⟩ fun a53 h53 => ?_; clear h52
 refine dk 14 (v := (ptT lr)) h53 rfl rfl ⟨hB38, hk39, hk40⟩ (fun x hx => (rn_load1 rfl rfl Try.isAgg176 (hx.2.2.cell rfl))) fun a54 h54 => ?_; clear h53
 have hT57 := hll.gr hg3 (fun q e => by cases e)
 have hT58 := hT57.gr hg32 (fun q e => by cases e)
 refine d1 7 h54 rfl rfl (op_call (args := #[(ptT ll)]) (R := fun res xw => res = .int .i64 (dp ll) ∧ w31 = xw) rfl rfl rfl (by kernel_rfl) (by kernel_rfl) (Try.call135 _ _) (deep_any ll w31 hT58) (by rintro e x ⟨rfl, rfl⟩; exact ⟨_, rfl, rfl, rfl⟩)) ?_ ?_; clear h54
 ·
  rintro _ _ ⟨rfl, rfl⟩
  exact ⟨hB38, hk39, hk40⟩
 rintro _ _ a55 ⟨rfl, rfl⟩ h55
 have hT61 := hlr.gr hg3 (fun q e => by cases e)
 have hT62 := hT61.gr hg32 (fun q e => by cases e)
 refine d1 15 h55 rfl rfl (op_call (args := #[(ptT lr)]) (R := fun res xw => res = .int .i64 (dp lr) ∧ w31 = xw) rfl rfl rfl (by kernel_rfl) (by kernel_rfl) (Try.call135 _ _) (deep_any lr w31 hT62) (by rintro e x ⟨rfl, rfl⟩; exact ⟨_, rfl, rfl, rfl⟩)) ?_ ?_; clear h55
 ·
  rintro _ _ ⟨rfl, rfl⟩
  exact ⟨hB38, hk39, hk40⟩
 rintro _ _ a59 ⟨rfl, rfl⟩ h59
 refine dk0 16 (v := .bool (decide (dp ll < dp lr))) h59 rfl rfl ⟨hB38, hk39, hk40⟩ fun a63 h63 => ?_; clear h59
 refine dr_done (by kernel_rfl) ?_
 refine co_then ?_
 have hc64 : (decide (dp ll < dp lr)) = false := decide_eq_false (by omega)
 rw [hc64] at h63; clear hc64
 refine co_false h63 rfl ?_
 refine wp_skip ?_
 refine co_then ?_
 refine co_seq ?_
 refine co_reg ?_
 refine pk0 (v := pt b 0) h63 rfl fun a65 h65 => ?_; clear h63
 have hT68 := hT20.gr hg32 (fun q e => by cases e)
 refine pw h65 rfl (op_call (args := #[pt b 0]) (R := fun res xw => res = pt c 0 ∧ Blk xw b 180 #[.string k, .slice v.a v.n v.c, .int .i64 (1 + mx (dp r) (dp lr)), (ptT r), (ptT lr)] ∧ Blk xw c 180 #[.string k2, .slice v2.a v2.n v2.c, .int .i64 (1 + mx (1 + mx (dp r) (dp lr)) (dp ll)), pt b 0, (ptT ll)] ∧ But (fun q => q = b ∨ q = c) w31 xw) rfl rfl rfl (by kernel_rfl) (by kernel_rfl) (Try.call136 _ _) (upR_any b c ll k2 v2 d2 lr k v d r w31 hk39 hk40 hT58 hT62 hT68 hnebc n_b_ll n_b_lr n_b_r n_c_ll n_c_lr n_c_r (show 0 ≤ (dp ll) ∧ (dp ll) ≤ 990000 from ⟨by omega, by omega⟩) (show 0 ≤ (dp lr) ∧ (dp lr) ≤ 990000 from ⟨by omega, by omega⟩) (show 0 ≤ (dp r) ∧ (dp r) ≤ 990000 from ⟨by omega, by omega⟩)) (by rintro e x ⟨rfl, h1, h2, h3⟩; exact ⟨_, rfl, rfl, h1, h2, h3⟩)) ?_; clear h65
 rintro _ w67 a66 ⟨rfl, hq69, hq70, hb71⟩ h66
 obtain ⟨d72, hd73⟩ : ∃ z : Int, z = 1 + mx (dp r) (dp lr) := ⟨_, rfl⟩; rw [← hd73] at hq69 hq70
 have hd73b := mx_bd3 (a := (dp r)) (b := (dp lr))
 obtain ⟨d74, hd75⟩ : ∃ z : Int, z = 1 + mx d72 (dp ll) := ⟨_, rfl⟩; rw [← hd75] at hq70
 have hd75b := mx_bd3 (a := d72) (b := (dp ll))
 have hB76 := fbU_foot hB38 hb71 (fun i hi hS => by rcases hS with rfl | rfl <;> simp)
 have hz77 := hb71.size
 refine pk0 (v := pt c 0) h66 rfl fun a78 h78 => ?_; clear h66
 refine pl_nil ?_
 refine co_then ?_
 refine wp_ret ?_
 refine co_blockR ?_
 refine co_thenR ?_
 refine co_ret1 h78 rfl rfl ?_
 have hT79 := TreeAt.but hT58 hb71 (fun q hq => fun hq2 => by rcases hq2 with hq2 | hq2; exact (fun e : q = b => n_b_ll (e ▸ hq)) hq2; exact (fun e : q = c => n_c_ll (e ▸ hq)) hq2)
 have hT80 := TreeAt.but hT62 hb71 (fun q hq => fun hq2 => by rcases hq2 with hq2 | hq2; exact (fun e : q = b => n_b_lr (e ▸ hq)) hq2; exact (fun e : q = c => n_c_lr (e ▸ hq)) hq2)
 have hT81 := TreeAt.but hT68 hb71 (fun q hq => fun hq2 => by rcases hq2 with hq2 | hq2; exact (fun e : q = b => n_b_r (e ▸ hq)) hq2; exact (fun e : q = c => n_c_r (e ▸ hq)) hq2)
 subst hd73
 subst hd75
 exact ⟨rfl, hq69, hq70, hT79, hT80, hT81, hB76⟩
set_option maxRecDepth 100000 in
theorem balD_any (b : Nat) (c : Nat) (g : Nat) (ll : Tm) (el : Tm) (er : Tm) (r : Tm) (k : ByteArray) (v : SlT) (d : Int) (k2 : ByteArray) (v2 : SlT) (d2 : Int) (k3 : ByteArray) (v3 : SlT) (d3 : Int) (w : World) (hB : Blk w b 180 #[.string k, .slice v.a v.n v.c, .int .i64 d, (ptT r), pt c 0]) (hC : Blk w c 180 #[.string k2, .slice v2.a v2.n v2.c, .int .i64 d2, pt g 0, (ptT ll)]) (hE : Blk w g 180 #[.string k3, .slice v3.a v3.n v3.c, .int .i64 d3, (ptT er), (ptT el)]) (hll : TreeAt w ll) (hel : TreeAt w el) (her : TreeAt w er) (hr : TreeAt w r) (hnebc : b ≠ c) (hnebg : b ≠ g) (hnecg : c ≠ g) (n_b_ll : b ∉ bk ll) (n_b_el : b ∉ bk el) (n_b_er : b ∉ bk er) (n_b_r : b ∉ bk r) (n_c_ll : c ∉ bk ll) (n_c_el : c ∉ bk el) (n_c_er : c ∉ bk er) (n_c_r : c ∉ bk r) (n_g_ll : g ∉ bk ll) (n_g_el : g ∉ bk el) (n_g_er : g ∉ bk er) (n_g_r : g ∉ bk r) (hdll : 0 ≤ dp ll ∧ dp ll ≤ 900000) (hdel : 0 ≤ dp el ∧ dp el ≤ 900000) (hder : 0 ≤ dp er ∧ dp er ≤ 900000) (hdr : 0 ≤ dp r ∧ dp r ≤ 900000) (hd2 : 0 ≤ d2 ∧ d2 ≤ 900000) (hd3 : 0 ≤ d3 ∧ d3 ≤ 900000) (hdif : dp r - d2 = -2) (hcmp : dp ll < d3) :
    Calls Try.prog 121 #[pt b 0] w fun e w' => e = .returned (pt g 0) ∧ Blk w' b 180 #[.string k, .slice v.a v.n v.c, .int .i64 (1 + mx (dp r) (dp er)), ptT r, ptT er] ∧ Blk w' c 180 #[.string k2, .slice v2.a v2.n v2.c, .int .i64 (1 + mx (dp el) (dp ll)), ptT el, ptT ll] ∧ Blk w' g 180 #[.string k3, .slice v3.a v3.n v3.c, .int .i64 (1 + mx (1 + mx (dp r) (dp er)) (1 + mx (dp el) (dp ll))), pt b 0, pt c 0] ∧ TreeAt w' ll ∧ TreeAt w' el ∧ TreeAt w' er ∧ TreeAt w' r ∧ But (fun q => q = b ∨ q = c ∨ q = g) w w' := by
 have hB0 := But.refl (fun q => q = b ∨ q = c ∨ q = g) w
 have hl_hB := hB.lt
 have hl_hC := hC.lt
 have hl_hE := hE.lt
 have hSb : (fun q => q = b ∨ q = c ∨ q = g) b ∨ w.heap.size ≤ b := .inl (by simp)
 have hSc : (fun q => q = b ∨ q = c ∨ q = g) c ∨ w.heap.size ≤ c := .inl (by simp)
 have hSg : (fun q => q = b ∨ q = c ∨ q = g) g ∨ w.heap.size ≤ g := .inl (by simp)
 refine co_enter (n := 75) Try.func121 rfl rfl rfl [(0, pt b 0)] rfl (fun a h0 => ?_)
 refine co_seq ?_
 refine co_reg ?_
 refine pk0 (v := .pointer none) h0 rfl fun a1 h1 => ?_; clear h0
 refine pl_nil ?_
 refine co_then ?_
 refine co_seq ?_
 refine co_seq ?_
 refine dr_gen (fun x => But (fun q => q = b ∨ q = c ∨ q = g) w x ∧ Blk x b 180 #[.string k, .slice v.a v.n v.c, .int .i64 d, (ptT r), pt c 0]) (by kernel_rfl) (fun w2 hg3 => ?_) (fun w2 hg3 => ?_)
 ·
  have hz4 := hg3.size
  have hB5 := fbU_new hB0 hg3
  have hk6 := hB.kept hg3 (by simp)
  exact ⟨hB5, hk6⟩
 have hz7 := hg3.size
 have hB8 := fbU_new hB0 hg3
 have hk9 := hB.kept hg3 (by simp)
 refine dk0 0 (v := pt b 0) h1 rfl rfl ⟨hB8, hk9⟩ fun a10 h10 => ?_; clear h1
 refine dk0 1 (v := pt b 0) h10 rfl rfl ⟨hB8, hk9⟩ fun a11 h11 => ?_; clear h10
 refine dk0 2 (v := pt b 3) h11 rfl rfl ⟨hB8, hk9⟩ fun a12 h12 => ?_; clear h11
 refine dk 3 (v := (ptT r)) h12 rfl rfl ⟨hB8, hk9⟩ (fun x hx => (rn_load1 rfl rfl Try.isAgg176 (hx.2.cell rfl))) fun a13 h13 => ?_; clear h12
 refine dk0 5 (v := pt b 0) h13 rfl rfl ⟨hB8, hk9⟩ fun a14 h14 => ?_; clear h13
 refine dk0 6 (v := pt b 0) h14 rfl rfl ⟨hB8, hk9⟩ fun a15 h15 => ?_; clear h14
 refine dk0 7 (v := pt b 4) h15 rfl rfl ⟨hB8, hk9⟩ fun a16 h16 => ?_; clear h15
 refine dk 8 (v := pt c 0) h16 rfl rfl ⟨hB8, hk9⟩ (fun x hx => (rn_load1 rfl rfl Try.isAgg176 (hx.2.cell rfl))) fun a17 h17 => ?_; clear h16
 have hT20 := hr.gr hg3 (fun q e => by cases e)
 refine d1 4 h17 rfl rfl (op_call (args := #[(ptT r)]) (R := fun res xw => res = .int .i64 (dp r) ∧ w2 = xw) rfl rfl rfl (by kernel_rfl) (by kernel_rfl) (Try.call135 _ _) (deep_any r w2 hT20) (by rintro e x ⟨rfl, rfl⟩; exact ⟨_, rfl, rfl, rfl⟩)) ?_ ?_; clear h17
 ·
  rintro _ _ ⟨rfl, rfl⟩
  exact ⟨hB8, hk9⟩
 rintro _ _ a18 ⟨rfl, rfl⟩ h18
 have hk23 := hC.kept hg3 (by simp)
 refine d1 9 h18 rfl rfl (op_call (args := #[pt c 0]) (R := fun res xw => res = .int .i64 d2 ∧ w2 = xw) rfl rfl rfl (by kernel_rfl) (by kernel_rfl) (Try.call135 _ _) (deep_blk w2 hk23) (by rintro e x ⟨rfl, rfl⟩; exact ⟨_, rfl, rfl, rfl⟩)) ?_ ?_; clear h18
 ·
  rintro _ _ ⟨rfl, rfl⟩
  exact ⟨hB8, hk9⟩
 rintro _ _ a21 ⟨rfl, rfl⟩ h21
 refine dk 10 (v := .int .i64 ((dp r) - d2)) h21 rfl rfl ⟨hB8, hk9⟩ (fun x hx => (rn_arith rfl rfl rfl rfl rfl rfl (IntWalk.i64_in _ (by omega)))) fun a24 h24 => ?_; clear h21
 refine dr_done (by kernel_rfl) ?_
 refine co_then ?_
 refine wp_block ?_
 refine co_seq ?_
 refine co_reg ?_
 refine pk0 (v := .bool ((dp r) - d2 == 2)) h24 rfl fun a25 h25 => ?_; clear h24
 refine pk0 (v := .bool ((dp r) - d2 == 2)) h25 rfl fun a26 h26 => ?_; clear h25
 refine pl_nil ?_
 refine co_then ?_
 have hc27 : ((dp r) - d2 == 2) = false := by first | (simp; done) | (simp; omega) | exact beq_false_of_ne (by omega) | exact beq_iff_eq.2 (by omega)
 rw [hc27] at h26; clear hc27
 refine co_false h26 rfl ?_
 refine co_seq ?_
 refine co_reg ?_
 refine pk0 (v := .bool ((dp r) - d2 == (-2))) h26 rfl fun a28 h28 => ?_; clear h26
 refine pk0 (v := .bool ((dp r) - d2 == (-2))) h28 rfl fun a29 h29 => ?_; clear h28
 refine pl_nil ?_
 refine co_then ?_
 have hc30 : ((dp r) - d2 == (-2)) = true := by first | (simp; done) | (simp; omega) | exact beq_false_of_ne (by omega) | exact beq_iff_eq.2 (by omega)
 rw [hc30] at h29; clear hc30
 refine co_true h29 rfl ?_
 refine co_seq ?_
 refine co_seq ?_
 refine dr_gen (fun x => But (fun q => q = b ∨ q = c ∨ q = g) w x ∧ Blk x b 180 #[.string k, .slice v.a v.n v.c, .int .i64 d, (ptT r), pt c 0] ∧ Blk x c 180 #[.string k2, .slice v2.a v2.n v2.c, .int .i64 d2, pt g 0, (ptT ll)]) (by kernel_rfl) (fun w31 hg32 => ?_) (fun w31 hg32 => ?_)
 ·
  have hz33 := hg32.size
  have hB34 := fbU_new hB8 hg32
  have hk35 := hk9.kept hg32 (by simp)
  have hk36 := hk23.kept hg32 (by simp)
  exact ⟨hB34, hk35, hk36⟩
 have hz37 := hg32.size
 have hB38 := fbU_new hB8 hg32
 have hk39 := hk9.kept hg32 (by simp)
 have hk40 := hk23.kept hg32 (by simp)
 refine dk0 0 (v := pt b 0) h29 rfl rfl ⟨hB38, hk39, hk40⟩ fun a41 h41 => ?_; clear h29
 refine dk0 1 (v := pt b 0) h41 rfl rfl ⟨hB38, hk39, hk40⟩ fun a42 h42 => ?_; clear h41
 refine dk0 2 (v := pt b 4) h42 rfl rfl ⟨hB38, hk39, hk40⟩ fun a43 h43 => ?_; clear h42
 refine dk 3 (v := pt c 0) h43 rfl rfl ⟨hB38, hk39, hk40⟩ (fun x hx => (rn_load1 rfl rfl Try.isAgg176 (hx.2.1.cell rfl))) fun a44 h44 => ?_; clear h43
 refine dk0 4 (v := pt c 0) h44 rfl rfl ⟨hB38, hk39, hk40⟩ fun a45 h45 => ?_; clear h44
 refine dk0 5 (v := pt c 4) h45 rfl rfl ⟨hB38, hk39, hk40⟩ fun a46 h46 => ?_; clear h45
 refine dk 6 (v := (ptT ll)) h46 rfl rfl ⟨hB38, hk39, hk40⟩ (fun x hx => (rn_load1 rfl rfl Try.isAgg176 (hx.2.2.cell rfl))) fun a47 h47 => ?_; clear h46
 refine dk0 8 (v := pt b 0) h47 rfl rfl ⟨hB38, hk39, hk40⟩ fun a48 h48 => ?_; clear h47
 refine dk0 9 (v := pt b 0) h48 rfl rfl ⟨hB38, hk39, hk40⟩ fun a49 h49 => ?_; clear h48
 refine dk0 10 (v := pt b 4) h49 rfl rfl ⟨hB38, hk39, hk40⟩ fun a50 h50 => ?_; clear h49
 refine dk 11 (v := pt c 0) h50 rfl rfl ⟨hB38, hk39, hk40⟩ (fun x hx => (rn_load1 rfl rfl Try.isAgg176 (hx.2.1.cell rfl))) fun a51 h51 => ?_; clear h50
 refine dk0 12 (v := pt c 0) h51 rfl rfl ⟨hB38, hk39, hk40⟩ fun a52 h52 => ?_; clear h51
 refine dk0 13 (v := pt c 3) h52 rfl rfl ⟨hB38, hk39, hk40⟩ fun a53 h53 => ?_; clear h52
 refine dk 14 (v := pt g 0) h53 rfl rfl ⟨hB38, hk39, hk40⟩ (fun x hx => (rn_load1 rfl rfl Try.isAgg176 (hx.2.2.cell rfl))) fun a54 h54 => ?_; clear h53
 have hT57 := hll.gr hg3 (fun q e => by cases e)
 have hT58 := hT57.gr hg32 (fun q e => by cases e)
 refine d1 7 h54 rfl rfl (op_call (args := #[(ptT ll)]) (R := fun res xw => res = .int .i64 (dp ll) ∧ w31 = xw) rfl rfl rfl (by kernel_rfl) (by kernel_rfl) (Try.call135 _ _) (deep_any ll w31 hT58) (by rintro e x ⟨rfl, rfl⟩; exact ⟨_, rfl, rfl, rfl⟩)) ?_ ?_; clear h54
 ·
  rintro _ _ ⟨rfl, rfl⟩
  exact ⟨hB38, hk39, hk40⟩
 rintro _ _ a55 ⟨rfl, rfl⟩ h55
 have hk61 := hE.kept hg3 (by simp)
 have hk62 := hk61.kept hg32 (by simp)
 refine d1 15 h55 rfl rfl (op_call (args := #[pt g 0]) (R := fun res xw => res = .int .i64 d3 ∧ w31 = xw) rfl rfl rfl (by kernel_rfl) (by kernel_rfl) (Try.call135 _ _) (deep_blk w31 hk62) (by rintro e x ⟨rfl, rfl⟩; exact ⟨_, rfl, rfl, rfl⟩)) ?_ ?_; clear h55
 ·
  rintro _ _ ⟨rfl, rfl⟩
  exact ⟨hB38, hk39, hk40⟩
 rintro _ _ a59 ⟨rfl, rfl⟩ h59
 refine dk0 16 (v := .bool (decide (dp ll < d3))) h59 rfl rfl ⟨hB38, hk39, hk40⟩ fun a63 h63 => ?_; clear h59
 refine dr_done (by kernel_rfl) ?_
 refine co_then ?_
 have hc64 : (decide (dp ll < d3)) = true := decide_eq_true (by omega)
 rw [hc64] at h63; clear hc64
 refine co_true h63 rfl ?_
 refine co_reg ?_
 refine pk0 (v := pt b 0) h63 rfl fun a65 h65 => ?_; clear h63
 refine pk0 (v := pt b 0) h65 rfl fun a66 h66 => ?_; clear h65
 refine pk0 (v := pt b 0) h66 rfl fun a67 h67 => ?_; clear h66
 refine pk0 (v := pt b 4) h67 rfl fun a68 h68 => ?_; clear h67
 refine pk (v := pt c 0) h68 rfl (rn_load1 rfl rfl Try.isAgg176 (hk39.cell rfl)) fun a69 h69 => ?_; clear h68
 have hT72 := hel.gr hg3 (fun q e => by cases e)
 have hT73 := hT72.gr hg32 (fun q e => by cases e)
 have hT74 := her.gr hg3 (fun q e => by cases e)
 have hT75 := hT74.gr hg32 (fun q e => by cases e)
 refine pw h69 rfl (op_call (args := #[pt c 0]) (R := fun res xw => res = pt g 0 ∧ Blk xw c 180 #[.string k2, .slice v2.a v2.n v2.c, .int .i64 (1 + mx (dp el) (dp ll)), (ptT el), (ptT ll)] ∧ Blk xw g 180 #[.string k3, .slice v3.a v3.n v3.c, .int .i64 (1 + mx (dp er) (1 + mx (dp el) (dp ll))), (ptT er), pt c 0] ∧ But (fun q => q = c ∨ q = g) w31 xw) rfl rfl rfl (by kernel_rfl) (by kernel_rfl) (Try.call137 _ _) (upL_any c g er k3 v3 d3 el k2 v2 d2 ll w31 hk40 hk62 hT75 hT73 hT58 hnecg n_c_er n_c_el n_c_ll n_g_er n_g_el n_g_ll (show 0 ≤ (dp er) ∧ (dp er) ≤ 990000 from ⟨by omega, by omega⟩) (show 0 ≤ (dp el) ∧ (dp el) ≤ 990000 from ⟨by omega, by omega⟩) (show 0 ≤ (dp ll) ∧ (dp ll) ≤ 990000 from ⟨by omega, by omega⟩)) (by rintro e x ⟨rfl, h1, h2, h3⟩; exact ⟨_, rfl, rfl, h1, h2, h3⟩)) ?_; clear h69
 rintro _ w71 a70 ⟨rfl, hq76, hq77, hb78⟩ h70
 obtain ⟨d79, hd80⟩ : ∃ z : Int, z = 1 + mx (dp el) (dp ll) := ⟨_, rfl⟩; rw [← hd80] at hq76 hq77
 have hd80b := mx_bd3 (a := (dp el)) (b := (dp ll))
 obtain ⟨d81, hd82⟩ : ∃ z : Int, z = 1 + mx (dp er) d79 := ⟨_, rfl⟩; rw [← hd82] at hq77
 have hd82b := mx_bd3 (a := (dp er)) (b := d79)
 have hB83 := fbU_foot hB38 hb78 (fun i hi hS => by rcases hS with rfl | rfl <;> simp)
 have hz84 := hb78.size
 refine pk0 (v := pt b 0) h70 rfl fun a85 h85 => ?_; clear h70
 refine pk0 (v := pt b 4) h85 rfl fun a86 h86 => ?_; clear h85
 have hk92 := Blk.butS hk39 hb78 (fun hq => by rcases hq with hq | hq; exact absurd hq hnebc; exact absurd hq hnebg)
 refine pwD h86 rfl (op_store1 rfl rfl rfl rfl Try.sizeOf176 hk92 rfl) ?_; clear h86
 rintro _ w88 a87 ⟨hk89, hz90, hg91⟩ h87
 have hk89' : Blk w88 b 180 #[.string k, .slice v.a v.n v.c, .int .i64 d, (ptT r), pt g 0] := hk89; clear hk89
 have hz93 := hg91.size
 refine pl_nil ?_
 refine co_then ?_
 refine co_seq ?_
 refine co_reg ?_
 refine pk0 (v := pt b 0) h87 rfl fun a94 h94 => ?_; clear h87
 have hB97 := fbU_at hB83 hg91 (fun hlt => by rcases hSb with hq | hq; exact hq; omega)
 have hT98 := TreeAt.but hT58 hb78 (fun q hq => fun hq2 => by rcases hq2 with hq2 | hq2; exact (fun e : q = c => n_c_ll (e ▸ hq)) hq2; exact (fun e : q = g => n_g_ll (e ▸ hq)) hq2)
 have hT99 := hT98.gr hg91 (fun q e => by cases e; exact n_b_ll)
 have hT100 := TreeAt.but hT73 hb78 (fun q hq => fun hq2 => by rcases hq2 with hq2 | hq2; exact (fun e : q = c => n_c_el (e ▸ hq)) hq2; exact (fun e : q = g => n_g_el (e ▸ hq)) hq2)
 have hT101 := hT100.gr hg91 (fun q e => by cases e; exact n_b_el)
 have hT102 := TreeAt.but hT75 hb78 (fun q hq => fun hq2 => by rcases hq2 with hq2 | hq2; exact (fun e : q = c => n_c_er (e ▸ hq)) hq2; exact (fun e : q = g => n_g_er (e ▸ hq)) hq2)
 have hT103 := hT102.gr hg91 (fun q e => by cases e; exact n_b_er)
 have hT104 := hT20.gr hg32 (fun q e => by cases e)
 have hT105 := TreeAt.but hT104 hb78 (fun q hq => fun hq2 => by rcases hq2 with hq2 | hq2; exact (fun e : q = c => n_c_r (e ▸ hq)) hq2; exact (fun e : q = g => n_g_r (e ▸ hq)) hq2)
 have hT106 := hT105.gr hg91 (fun q e => by cases e; exact n_b_r)
 have hk107 := hq76.kept hg91 (by simp; omega)
 have hk115 := hq77.kept hg91 (by simp; omega)
 refine pw h94 rfl (op_call (args := #[pt b 0]) (R := fun res xw => res = pt g 0 ∧ Blk xw b 180 #[.string k, .slice v.a v.n v.c, .int .i64 (1 + mx (dp r) (dp er)), (ptT r), (ptT er)] ∧ Blk xw g 180 #[.string k3, .slice v3.a v3.n v3.c, .int .i64 (1 + mx (1 + mx (dp r) (dp er)) d79), pt b 0, pt c 0] ∧ But (fun q => q = b ∨ q = g) w88 xw) rfl rfl rfl (by kernel_rfl) (by kernel_rfl) (Try.call136 _ _) (upR_any b g (Tm.nd c el k2 v2 d79 ll) k3 v3 d81 er k v d r w88 hk89' hk115 ⟨hk107, hT101, hT99⟩ hT103 hT106 hnebg (nin_nd hnebc n_b_el n_b_ll) n_b_er n_b_r (nin_nd (Ne.symm hnecg) n_g_el n_g_ll) n_g_er n_g_r (show 0 ≤ d79 ∧ d79 ≤ 990000 from ⟨by omega, by omega⟩) (show 0 ≤ (dp er) ∧ (dp er) ≤ 990000 from ⟨by omega, by omega⟩) (show 0 ≤ (dp r) ∧ (dp r) ≤ 990000 from ⟨by omega, by omega⟩)) (by rintro e x ⟨rfl, h1, h2, h3⟩; exact ⟨_, rfl, rfl, h1, h2, h3⟩)) ?_; clear h94
 rintro _ w96 a95 ⟨rfl, hq108, hq109, hb110⟩ h95
 obtain ⟨d111, hd112⟩ : ∃ z : Int, z = 1 + mx (dp r) (dp er) := ⟨_, rfl⟩; rw [← hd112] at hq108 hq109
 have hd112b := mx_bd3 (a := (dp r)) (b := (dp er))
 obtain ⟨d113, hd114⟩ : ∃ z : Int, z = 1 + mx d111 d79 := ⟨_, rfl⟩; rw [← hd114] at hq109
 have hd114b := mx_bd3 (a := d111) (b := d79)
 have hB116 := fbU_foot hB97 hb110 (fun i hi hS => by rcases hS with rfl | rfl <;> simp)
 have hz117 := hb110.size
 refine pk0 (v := pt g 0) h95 rfl fun a118 h118 => ?_; clear h95
 refine pl_nil ?_
 refine co_then ?_
 refine wp_ret ?_
 refine co_blockR ?_
 refine co_thenR ?_
 refine co_ret1 h118 rfl rfl ?_
 have hk119 := Blk.butS hk107 hb110 (fun hq => by rcases hq with hq | hq; exact absurd hq (Ne.symm hnebc); exact absurd hq hnecg)
 have hT120 := TreeAt.but hT99 hb110 (fun q hq => fun hq2 => by rcases hq2 with hq2 | hq2; exact (fun e : q = b => n_b_ll (e ▸ hq)) hq2; exact (fun e : q = g => n_g_ll (e ▸ hq)) hq2)
 have hT121 := TreeAt.but hT101 hb110 (fun q hq => fun hq2 => by rcases hq2 with hq2 | hq2; exact (fun e : q = b => n_b_el (e ▸ hq)) hq2; exact (fun e : q = g => n_g_el (e ▸ hq)) hq2)
 have hT122 := TreeAt.but hT103 hb110 (fun q hq => fun hq2 => by rcases hq2 with hq2 | hq2; exact (fun e : q = b => n_b_er (e ▸ hq)) hq2; exact (fun e : q = g => n_g_er (e ▸ hq)) hq2)
 have hT123 := TreeAt.but hT106 hb110 (fun q hq => fun hq2 => by rcases hq2 with hq2 | hq2; exact (fun e : q = b => n_b_r (e ▸ hq)) hq2; exact (fun e : q = g => n_g_r (e ▸ hq)) hq2)
 subst hd112
 subst hd114
 subst hd80
 subst hd82
 exact ⟨rfl, hq108, hk119, hq109, hT120, hT121, hT122, hT123, hB116⟩
set_option maxRecDepth 100000 in
theorem balE_any (b : Nat) (l : Tm) (k : ByteArray) (v : SlT) (d : Int) (r : Tm) (w : World) (hB : Blk w b 180 #[.string k, .slice v.a v.n v.c, .int .i64 d, (ptT l), (ptT r)]) (hl : TreeAt w l) (hr : TreeAt w r) (hbl : b ∉ bk l) (hbr : b ∉ bk r) (hdl : 0 ≤ dp l ∧ dp l ≤ 900000) (hdr : 0 ≤ dp r ∧ dp r ≤ 900000) (h2 : ¬ dp l - dp r = 2) (h3 : ¬ dp l - dp r = -2) :
    Calls Try.prog 121 #[pt b 0] w fun e w' => e = .returned (pt b 0) ∧ Blk w' b 180 (ndV k v (1 + mx (dp l) (dp r)) l r) ∧ TreeAt w' l ∧ TreeAt w' r ∧ But (fun q => q = b) w w' := by
 have hB0 := But.refl (fun q => q = b) w
 have hl_hB := hB.lt
 have hSb : (fun q => q = b) b ∨ w.heap.size ≤ b := .inl rfl
 refine co_enter (n := 75) Try.func121 rfl rfl rfl [(0, pt b 0)] rfl (fun a h0 => ?_)
 refine co_seq ?_
 refine co_reg ?_
 refine pk0 (v := .pointer none) h0 rfl fun a1 h1 => ?_; clear h0
 refine pl_nil ?_
 refine co_then ?_
 refine co_seq ?_
 refine co_seq ?_
 refine dr_gen (fun x => But (fun q => q = b) w x ∧ Blk x b 180 #[.string k, .slice v.a v.n v.c, .int .i64 d, (ptT l), (ptT r)]) (by kernel_rfl) (fun w2 hg3 => ?_) (fun w2 hg3 => ?_)
 ·
  have hz4 := hg3.size
  have hB5 := fbU_new hB0 hg3
  have hk6 := hB.kept hg3 (by simp)
  exact ⟨hB5, hk6⟩
 have hz7 := hg3.size
 have hB8 := fbU_new hB0 hg3
 have hk9 := hB.kept hg3 (by simp)
 refine dk0 0 (v := pt b 0) h1 rfl rfl ⟨hB8, hk9⟩ fun a10 h10 => ?_; clear h1
 refine dk0 1 (v := pt b 0) h10 rfl rfl ⟨hB8, hk9⟩ fun a11 h11 => ?_; clear h10
 refine dk0 2 (v := pt b 3) h11 rfl rfl ⟨hB8, hk9⟩ fun a12 h12 => ?_; clear h11
 refine dk 3 (v := (ptT l)) h12 rfl rfl ⟨hB8, hk9⟩ (fun x hx => (rn_load1 rfl rfl Try.isAgg176 (hx.2.cell rfl))) fun a13 h13 => ?_; clear h12
 refine dk0 5 (v := pt b 0) h13 rfl rfl ⟨hB8, hk9⟩ fun a14 h14 => ?_; clear h13
 refine dk0 6 (v := pt b 0) h14 rfl rfl ⟨hB8, hk9⟩ fun a15 h15 => ?_; clear h14
 refine dk0 7 (v := pt b 4) h15 rfl rfl ⟨hB8, hk9⟩ fun a16 h16 => ?_; clear h15
 refine dk 8 (v := (ptT r)) h16 rfl rfl ⟨hB8, hk9⟩ (fun x hx => (rn_load1 rfl rfl Try.isAgg176 (hx.2.cell rfl))) fun a17 h17 => ?_; clear h16
 have hT20 := hl.gr hg3 (fun q e => by cases e)
 refine d1 4 h17 rfl rfl (op_call (args := #[(ptT l)]) (R := fun res xw => res = .int .i64 (dp l) ∧ w2 = xw) rfl rfl rfl (by kernel_rfl) (by kernel_rfl) (Try.call135 _ _) (deep_any l w2 hT20) (by rintro e x ⟨rfl, rfl⟩; exact ⟨_, rfl, rfl, rfl⟩)) ?_ ?_; clear h17
 ·
  rintro _ _ ⟨rfl, rfl⟩
  exact ⟨hB8, hk9⟩
 rintro _ _ a18 ⟨rfl, rfl⟩ h18
 have hT23 := hr.gr hg3 (fun q e => by cases e)
 refine d1 9 h18 rfl rfl (op_call (args := #[(ptT r)]) (R := fun res xw => res = .int .i64 (dp r) ∧ w2 = xw) rfl rfl rfl (by kernel_rfl) (by kernel_rfl) (Try.call135 _ _) (deep_any r w2 hT23) (by rintro e x ⟨rfl, rfl⟩; exact ⟨_, rfl, rfl, rfl⟩)) ?_ ?_; clear h18
 ·
  rintro _ _ ⟨rfl, rfl⟩
  exact ⟨hB8, hk9⟩
 rintro _ _ a21 ⟨rfl, rfl⟩ h21
 refine dk 10 (v := .int .i64 ((dp l) - (dp r))) h21 rfl rfl ⟨hB8, hk9⟩ (fun x hx => (rn_arith rfl rfl rfl rfl rfl rfl (IntWalk.i64_in _ (by omega)))) fun a24 h24 => ?_; clear h21
 refine dr_done (by kernel_rfl) ?_
 refine co_then ?_
 refine wp_block ?_
 refine co_seq ?_
 refine co_reg ?_
 refine pk0 (v := .bool ((dp l) - (dp r) == 2)) h24 rfl fun a25 h25 => ?_; clear h24
 refine pk0 (v := .bool ((dp l) - (dp r) == 2)) h25 rfl fun a26 h26 => ?_; clear h25
 refine pl_nil ?_
 refine co_then ?_
 have hc27 : ((dp l) - (dp r) == 2) = false := by first | (simp; done) | (simp; omega) | exact beq_false_of_ne (by omega) | exact beq_iff_eq.2 (by omega)
 rw [hc27] at h26; clear hc27
 refine co_false h26 rfl ?_
 refine co_seq ?_
 refine co_reg ?_
 refine pk0 (v := .bool ((dp l) - (dp r) == (-2))) h26 rfl fun a28 h28 => ?_; clear h26
 refine pk0 (v := .bool ((dp l) - (dp r) == (-2))) h28 rfl fun a29 h29 => ?_; clear h28
 refine pl_nil ?_
 refine co_then ?_
 have hc30 : ((dp l) - (dp r) == (-2)) = false := by first | (simp; done) | (simp; omega) | exact beq_false_of_ne (by omega) | exact beq_iff_eq.2 (by omega)
 rw [hc30] at h29; clear hc30
 refine co_false h29 rfl ?_
 refine wp_skip ?_
 refine co_blockN ?_
 refine co_then ?_
 refine co_seq ?_
 refine co_reg ?_
 refine pk0 (v := pt b 0) h29 rfl fun a31 h31 => ?_; clear h29
 refine pw h31 rfl (op_call (args := #[pt b 0]) (R := fun res xw => res = .tuple #[] ∧ Blk xw b 180 #[.string k, .slice v.a v.n v.c, .int .i64 (1 + mx (dp l) (dp r)), (ptT l), (ptT r)] ∧ But (fun q => q = b) w2 xw) rfl rfl rfl (by kernel_rfl) (by kernel_rfl) (Try.call138 _ _) (measure_any b l k v d r w2 hk9 hT20 hT23 hbl hbr (show 0 ≤ (dp l) ∧ (dp l) ≤ 1000000 from ⟨by omega, by omega⟩) (show 0 ≤ (dp r) ∧ (dp r) ≤ 1000000 from ⟨by omega, by omega⟩)) (by rintro e x ⟨rfl, h1, h2⟩; exact ⟨_, rfl, rfl, h1, h2⟩)) ?_; clear h31
 rintro _ w33 a32 ⟨rfl, hq34, hb35⟩ h32
 obtain ⟨d36, hd37⟩ : ∃ z : Int, z = 1 + mx (dp l) (dp r) := ⟨_, rfl⟩; rw [← hd37] at hq34
 have hd37b := mx_bd3 (a := (dp l)) (b := (dp r))
 have hB38 := fbU_foot hB8 hb35 (fun i hi hS => by rcases hS with rfl; rfl)
 have hz39 := hb35.size
 refine pl_nil ?_
 refine co_then ?_
 refine co_seq ?_
 refine co_reg ?_
 refine pk0 (v := pt b 0) h32 rfl fun a40 h40 => ?_; clear h32
 refine pk0 (v := pt b 0) h40 rfl fun a41 h41 => ?_; clear h40
 refine pl_nil ?_
 refine co_then ?_
 refine wp_ret ?_
 refine co_ret1 h41 rfl rfl ?_
 have hT42 := TreeAt.but hT20 hb35 (fun q hq => (fun e : q = b => hbl (e ▸ hq)))
 have hT43 := TreeAt.but hT23 hb35 (fun q hq => (fun e : q = b => hbr (e ▸ hq)))
 subst hd37
 exact ⟨rfl, hq34, hT42, hT43, hB38⟩
end Go.Proofs.Ytbjbcbbhmbpndaa

/- Package tree: balance. Conditions: both sides flat, of at most 100000 keys. -/
namespace Go.Proofs.Ytbjbcbbhmbpndaa
open Go.RowKit Go.PlainAid
set_option linter.unusedVariables false
set_option linter.unusedSimpArgs false


theorem dp_nil : dp .nil = 0 := rfl
theorem dp_nd (b : Nat) (l : Tm) (k : ByteArray) (v : SlT) (d : Int) (r : Tm) : dp (.nd b l k v d r) = d := rfl
def sz : Tm → Nat
  | .nil => 0
  | .nd _ l _ _ _ r => 1 + sz l + sz r
def il : Tm → List (ByteArray × SlT)
  | .nil => []
  | .nd _ l k v _ r => il l ++ (k, v) :: il r
def Avl : Tm → Prop
  | .nil => True
  | .nd _ l _ _ d r => Avl l ∧ Avl r ∧ d = 1 + mx (dp l) (dp r) ∧ dp l - dp r ≤ 1 ∧ dp r - dp l ≤ 1
theorem Avl.bd : ∀ {t : Tm}, Avl t → 0 ≤ dp t ∧ dp t ≤ (sz t : Int)
  | .nil, _ => ⟨Int.le_refl _, Int.le_refl _⟩
  | .nd b l k v d r, h => by
    obtain ⟨h1, h2, h3, _⟩ := h
    have k1 := Avl.bd h1; have k2 := Avl.bd h2; have k3 := mx_bd3 (a := dp l) (b := dp r)
    show 0 ≤ d ∧ d ≤ ((1 + sz l + sz r : Nat) : Int)
    omega
def balT : Tm → Tm
  | .nil => .nil
  | .nd b l k v d r =>
    if dp l - dp r = 2 then
      match l with
      | .nil => .nil
      | .nd c ll k2 v2 d2 lr =>
        if dp ll < dp lr then
          match lr with
          | .nil => .nil
          | .nd g el k3 v3 d3 er => .nd g (.nd c ll k2 v2 (1 + mx (dp ll) (dp el)) el) k3 v3 (1 + mx (1 + mx (dp ll) (dp el)) (1 + mx (dp er) (dp r))) (.nd b er k v (1 + mx (dp er) (dp r)) r)
        else .nd c ll k2 v2 (1 + mx (dp ll) (1 + mx (dp lr) (dp r))) (.nd b lr k v (1 + mx (dp lr) (dp r)) r)
    else if dp l - dp r = -2 then
      match r with
      | .nil => .nil
      | .nd c lr k2 v2 d2 ll =>
        if dp ll < dp lr then
          match lr with
          | .nil => .nil
          | .nd g er k3 v3 d3 el => .nd g (.nd b l k v (1 + mx (dp l) (dp er)) er) k3 v3 (1 + mx (1 + mx (dp l) (dp er)) (1 + mx (dp el) (dp ll))) (.nd c el k2 v2 (1 + mx (dp el) (dp ll)) ll)
        else .nd c (.nd b l k v (1 + mx (dp l) (dp lr)) lr) k2 v2 (1 + mx (1 + mx (dp l) (dp lr)) (dp ll)) ll
    else .nd b l k v (1 + mx (dp l) (dp r)) r
/-- The ways of balance. -/
theorem balT_ways {P : Tm → Prop} {b : Nat} {l r : Tm} {k : ByteArray} {v : SlT} {d : Int} (hl : Avl l) (hr : Avl r)
    (hA : ∀ c ll k2 v2 d2 lr, l = .nd c ll k2 v2 d2 lr → Avl ll → Avl lr → d2 = 1 + mx (dp ll) (dp lr) → dp ll - dp lr ≤ 1 → dp lr - dp ll ≤ 1 → d2 - dp r = 2 → ¬ dp ll < dp lr → P (.nd c ll k2 v2 (1 + mx (dp ll) (1 + mx (dp lr) (dp r))) (.nd b lr k v (1 + mx (dp lr) (dp r)) r)))
    (hB : ∀ c ll k2 v2 d2 g el k3 v3 d3 er, l = .nd c ll k2 v2 d2 (.nd g el k3 v3 d3 er) → Avl ll → Avl el → Avl er → d2 = 1 + mx (dp ll) d3 → d3 = 1 + mx (dp el) (dp er) → dp el - dp er ≤ 1 → dp er - dp el ≤ 1 → d3 - dp ll ≤ 1 → d2 - dp r = 2 → dp ll < d3 → P (.nd g (.nd c ll k2 v2 (1 + mx (dp ll) (dp el)) el) k3 v3 (1 + mx (1 + mx (dp ll) (dp el)) (1 + mx (dp er) (dp r))) (.nd b er k v (1 + mx (dp er) (dp r)) r)))
    (hC : ∀ c ll k2 v2 d2 lr, r = .nd c lr k2 v2 d2 ll → Avl ll → Avl lr → d2 = 1 + mx (dp lr) (dp ll) → dp ll - dp lr ≤ 1 → dp lr - dp ll ≤ 1 → dp l - d2 = -2 → ¬ dp ll < dp lr → P (.nd c (.nd b l k v (1 + mx (dp l) (dp lr)) lr) k2 v2 (1 + mx (1 + mx (dp l) (dp lr)) (dp ll)) ll))
    (hD : ∀ c ll k2 v2 d2 g el k3 v3 d3 er, r = .nd c (.nd g er k3 v3 d3 el) k2 v2 d2 ll → Avl ll → Avl el → Avl er → d2 = 1 + mx d3 (dp ll) → d3 = 1 + mx (dp er) (dp el) → dp el - dp er ≤ 1 → dp er - dp el ≤ 1 → d3 - dp ll ≤ 1 → dp l - d2 = -2 → dp ll < d3 → P (.nd g (.nd b l k v (1 + mx (dp l) (dp er)) er) k3 v3 (1 + mx (1 + mx (dp l) (dp er)) (1 + mx (dp el) (dp ll))) (.nd c el k2 v2 (1 + mx (dp el) (dp ll)) ll)))
    (hE : ¬ dp l - dp r = 2 → ¬ dp l - dp r = -2 → P (.nd b l k v (1 + mx (dp l) (dp r)) r)) : P (balT (.nd b l k v d r)) := by
  show P (if dp l - dp r = 2 then _ else if dp l - dp r = -2 then _ else _)
  by_cases h1 : dp l - dp r = 2
  · rw [if_pos h1]
    have hr0 := hr.bd
    cases l with
    | nil => exfalso; simp only [dp_nil, dp_nd] at h1; omega
    | nd c ll k2 v2 d2 lr =>
      obtain ⟨a1, a2, a3, a4, a5⟩ := hl
      show P (if dp ll < dp lr then _ else _)
      by_cases h2 : dp ll < dp lr
      · rw [if_pos h2]
        have h0 := a1.bd
        cases lr with
        | nil => exfalso; simp only [dp_nil, dp_nd] at h2; omega
        | nd g el k3 v3 d3 er =>
          obtain ⟨e1, e2, e3, e4, e5⟩ := a2
          exact hB c ll k2 v2 d2 g el k3 v3 d3 er rfl a1 e1 e2 a3 e3 e4 e5 a5 h1 h2
      · rw [if_neg h2]; exact hA c ll k2 v2 d2 lr rfl a1 a2 a3 a4 a5 h1 h2
  · rw [if_neg h1]
    by_cases h1' : dp l - dp r = -2
    · rw [if_pos h1']
      have hl0 := hl.bd
      cases r with
      | nil => exfalso; simp only [dp_nil, dp_nd] at h1'; omega
      | nd c lr k2 v2 d2 ll =>
        obtain ⟨a2, a1, a3, a5, a4⟩ := hr
        show P (if dp ll < dp lr then _ else _)
        by_cases h2 : dp ll < dp lr
        · rw [if_pos h2]
          have h0 := a1.bd
          cases lr with
          | nil => exfalso; simp only [dp_nil, dp_nd] at h2; omega
          | nd g er k3 v3 d3 el =>
            obtain ⟨e2, e1, e3, e5, e4⟩ := a2
            exact hD c ll k2 v2 d2 g el k3 v3 d3 er rfl a1 e1 e2 a3 e3 e4 e5 a5 h1' h2
        · rw [if_neg h2]; exact hC c ll k2 v2 d2 lr rfl a1 a2 a3 a4 a5 h1' h2
    · rw [if_neg h1']; exact hE h1 h1'
section
variable {b : Nat} {l r : Tm} {k : ByteArray} {v : SlT} {d : Int}
theorem balT_bk (hl : Avl l) (hr : Avl r) : (bk (balT (.nd b l k v d r))).Perm (bk (.nd b l k v d r)) := by
  refine balT_ways (P := fun t => (bk t).Perm (bk (.nd b l k v d r))) hl hr ?_ ?_ ?_ ?_ ?_
  · intro c ll k2 v2 d2 lr e _ _ _ _ _ _ _; subst e
    exact List.perm_iff_count.2 fun a => by simp only [bk, List.count_cons, List.count_append]; omega
  · intro c ll k2 v2 d2 g el k3 v3 d3 er e _ _ _ _ _ _ _ _ _ _; subst e
    exact List.perm_iff_count.2 fun a => by simp only [bk, List.count_cons, List.count_append]; omega
  · intro c ll k2 v2 d2 lr e _ _ _ _ _ _ _; subst e
    exact List.perm_iff_count.2 fun a => by simp only [bk, List.count_cons, List.count_append]; omega
  · intro c ll k2 v2 d2 g el k3 v3 d3 er e _ _ _ _ _ _ _ _ _ _; subst e
    exact List.perm_iff_count.2 fun a => by simp only [bk, List.count_cons, List.count_append]; omega
  · intro _ _; exact List.Perm.refl _
theorem balT_il (hl : Avl l) (hr : Avl r) : il (balT (.nd b l k v d r)) = il l ++ (k, v) :: il r := by
  refine balT_ways (P := fun t => il t = il l ++ (k, v) :: il r) hl hr ?_ ?_ ?_ ?_ ?_
  · intro c ll k2 v2 d2 lr e _ _ _ _ _ _ _; subst e; simp [il]
  · intro c ll k2 v2 d2 g el k3 v3 d3 er e _ _ _ _ _ _ _ _ _ _; subst e; simp [il]
  · intro c ll k2 v2 d2 lr e _ _ _ _ _ _ _; subst e; simp [il]
  · intro c ll k2 v2 d2 g el k3 v3 d3 er e _ _ _ _ _ _ _ _ _ _; subst e; simp [il]
  · intro _ _; rfl
theorem il_len : ∀ t : Tm, (il t).length = sz t
  | .nil => rfl
  | .nd b l k v d r => by simp only [il, sz, List.length_append, List.length_cons, il_len l, il_len r]; omega
theorem balT_sz (hl : Avl l) (hr : Avl r) : sz (balT (.nd b l k v d r)) = 1 + sz l + sz r := by
  rw [← il_len, balT_il hl hr, List.length_append, List.length_cons, il_len, il_len]; omega
/-- A tree whose sides differ by two at most is flat behind balance; how deep it is then. -/
theorem balT_avl (hl : Avl l) (hr : Avl r) (h1 : dp l - dp r ≤ 2) (h2 : dp r - dp l ≤ 2) : Avl (balT (.nd b l k v d r)) ∧ mx (dp l) (dp r) ≤ dp (balT (.nd b l k v d r)) ∧ dp (balT (.nd b l k v d r)) ≤ 1 + mx (dp l) (dp r) ∧ (dp l - dp r ≤ 1 → dp r - dp l ≤ 1 → dp (balT (.nd b l k v d r)) = 1 + mx (dp l) (dp r)) := by
  refine balT_ways (P := fun t => Avl t ∧ mx (dp l) (dp r) ≤ dp t ∧ dp t ≤ 1 + mx (dp l) (dp r) ∧ (dp l - dp r ≤ 1 → dp r - dp l ≤ 1 → dp t = 1 + mx (dp l) (dp r))) hl hr ?_ ?_ ?_ ?_ ?_
  · intro c ll k2 v2 d2 lr e a1 a2 a3 a4 a5 a6 a7; subst e
    have m1 := mx_bd3 (a := dp ll) (b := dp lr); have m2 := mx_bd3 (a := dp lr) (b := dp r); have m3 := mx_bd3 (a := dp ll) (b := 1 + mx (dp lr) (dp r)); have m4 := mx_bd3 (a := d2) (b := dp r)
    refine ⟨⟨a1, ⟨a2, hr, rfl, ?_, ?_⟩, rfl, ?_, ?_⟩, ?_, ?_, ?_⟩ <;> simp only [dp_nil, dp_nd] at * <;> omega
  · intro c ll k2 v2 d2 g el k3 v3 d3 er e a1 a2 a3 a4 a5 a6 a7 a8 a9 a10; subst e
    have m1 := mx_bd3 (a := dp ll) (b := d3); have m2 := mx_bd3 (a := dp el) (b := dp er); have m3 := mx_bd3 (a := dp ll) (b := dp el); have m4 := mx_bd3 (a := dp er) (b := dp r); have m5 := mx_bd3 (a := 1 + mx (dp ll) (dp el)) (b := 1 + mx (dp er) (dp r)); have m6 := mx_bd3 (a := d2) (b := dp r)
    refine ⟨⟨⟨a1, a2, rfl, ?_, ?_⟩, ⟨a3, hr, rfl, ?_, ?_⟩, rfl, ?_, ?_⟩, ?_, ?_, ?_⟩ <;> simp only [dp_nil, dp_nd] at * <;> omega
  · intro c ll k2 v2 d2 lr e a1 a2 a3 a4 a5 a6 a7; subst e
    have m1 := mx_bd3 (a := dp lr) (b := dp ll); have m2 := mx_bd3 (a := dp l) (b := dp lr); have m3 := mx_bd3 (a := 1 + mx (dp l) (dp lr)) (b := dp ll); have m4 := mx_bd3 (a := dp l) (b := d2)
    refine ⟨⟨⟨hl, a2, rfl, ?_, ?_⟩, a1, rfl, ?_, ?_⟩, ?_, ?_, ?_⟩ <;> simp only [dp_nil, dp_nd] at * <;> omega
  · intro c ll k2 v2 d2 g el k3 v3 d3 er e a1 a2 a3 a4 a5 a6 a7 a8 a9 a10; subst e
    have m1 := mx_bd3 (a := d3) (b := dp ll); have m2 := mx_bd3 (a := dp er) (b := dp el); have m3 := mx_bd3 (a := dp l) (b := dp er); have m4 := mx_bd3 (a := dp el) (b := dp ll); have m5 := mx_bd3 (a := 1 + mx (dp l) (dp er)) (b := 1 + mx (dp el) (dp ll)); have m6 := mx_bd3 (a := dp l) (b := d2)
    refine ⟨⟨⟨hl, a3, rfl, ?_, ?_⟩, ⟨a2, a1, rfl, ?_, ?_⟩, rfl, ?_, ?_⟩, ?_, ?_, ?_⟩ <;> simp only [dp_nil, dp_nd] at * <;> omega
  · intro a1 a2
    have m1 := mx_bd3 (a := dp l) (b := dp r)
    refine ⟨⟨hl, hr, rfl, by omega, by omega⟩, ?_, ?_, fun _ _ => rfl⟩
    · show mx (dp l) (dp r) ≤ 1 + mx (dp l) (dp r); omega
    · exact Int.le_refl _
end
theorem nin_inv {a b : Nat} {l r : Tm} {k : ByteArray} {v : SlT} {d : Int} (h : a ∉ bk (.nd b l k v d r)) : a ≠ b ∧ a ∉ bk l ∧ a ∉ bk r := by
  simp only [bk, List.mem_cons, List.mem_append, not_or] at h; exact h
theorem dis_inv {b : Nat} {l r t : Tm} {k : ByteArray} {v : SlT} {d : Int} (h : ∀ q ∈ bk (.nd b l k v d r), q ∉ bk t) : b ∉ bk t ∧ (∀ q ∈ bk l, q ∉ bk t) ∧ ∀ q ∈ bk r, q ∉ bk t :=
  ⟨h b (by simp [bk]), fun q hq => h q (by simp [bk, hq]), fun q hq => h q (by simp [bk, hq])⟩
set_option maxRecDepth 100000 in
theorem balance_any (b : Nat) (l : Tm) (k : ByteArray) (v : SlT) (d : Int) (r : Tm) (w : World) (hT : TreeAt w (.nd b l k v d r)) (hn : (bk (.nd b l k v d r)).Nodup) (hl : Avl l) (hr : Avl r) (hsl : sz l ≤ 100000) (hsr : sz r ≤ 100000) :
    Calls Try.prog 121 #[pt b 0] w fun e w' => e = .returned (ptT (balT (.nd b l k v d r))) ∧ TreeAt w' (balT (.nd b l k v d r)) ∧ But (fun q => q ∈ bk (.nd b l k v d r)) w w' := by
  obtain ⟨hB, tl, tr⟩ := hT
  obtain ⟨n1, n2, n3, n4, n5⟩ := nd_ap hn
  have bl := hl.bd; have br := hr.bd
  refine balT_ways (P := fun t => Calls Try.prog 121 #[pt b 0] w fun e w' => e = .returned (ptT t) ∧ TreeAt w' t ∧ But (fun q => q ∈ bk (.nd b l k v d r)) w w') hl hr ?_ ?_ ?_ ?_ ?_
  · intro c ll k2 v2 d2 lr e a1 a2 a3 a4 a5 a6 a7; subst e
    obtain ⟨hC, t1, t2⟩ := tl
    obtain ⟨m1, m2, m3, m4, m5⟩ := nd_ap n3
    obtain ⟨i1, i2, i3⟩ := nin_inv n1
    obtain ⟨j1, j2, j3⟩ := dis_inv n5
    have q1 := a1.bd; have q2 := a2.bd
    simp only [dp_nil, dp_nd, sz] at bl hsl
    exact (balA_any b c ll lr r k v d k2 v2 d2 w hB hC t1 t2 tr i1 i2 i3 n2 m1 m2 j1 (by omega) (by omega) (by omega) (by omega) a6 a7).mono fun e x ⟨h1, h2, h3, h4, h5, h6, h7⟩ => ⟨h1, ⟨h3, h4, h2, h5, h6⟩, h7.mono fun q _ hq => by rcases hq with rfl | rfl <;> simp [bk]⟩
  · intro c ll k2 v2 d2 g el k3 v3 d3 er e a1 a2 a3 a4 a5 a6 a7 a8 a9 a10; subst e
    obtain ⟨hC, t1, hG, t2, t3⟩ := tl
    obtain ⟨m1, m2, m3, m4, m5⟩ := nd_ap n3
    obtain ⟨p1, p2, p3, p4, p5⟩ := nd_ap m4
    obtain ⟨i1, i2, i3⟩ := nin_inv n1
    obtain ⟨i4, i5, i6⟩ := nin_inv i3
    obtain ⟨o1, o2, o3⟩ := nin_inv m2
    obtain ⟨j1, j2, j3⟩ := dis_inv n5
    obtain ⟨j4, j5, j6⟩ := dis_inv j3
    obtain ⟨s1, s2, s3⟩ := dis_inv (dis_symm m5)
    have q1 := a1.bd; have q2 := a2.bd; have q3 := a3.bd; have q4 := mx_bd3 (a := dp el) (b := dp er)
    simp only [dp_nil, dp_nd, sz] at bl hsl
    exact (balB_any b c g ll el er r k v d k2 v2 d2 k3 v3 d3 w hB hC hG t1 t2 t3 tr i1 i4 o1 i2 i5 i6 n2 m1 o2 o3 j1 s1 p1 p2 j4 (by omega) (by omega) (by omega) (by omega) (by omega) (by omega) a9 a10).mono fun e x ⟨h1, h2, h3, h4, h5, h6, h7, h8, h9⟩ => ⟨h1, ⟨h4, ⟨h3, h5, h6⟩, h2, h7, h8⟩, h9.mono fun q _ hq => by rcases hq with rfl | rfl | rfl <;> simp [bk]⟩
  · intro c ll k2 v2 d2 lr e a1 a2 a3 a4 a5 a6 a7; subst e
    obtain ⟨hC, t2, t1⟩ := tr
    obtain ⟨m2, m1, m4, m3, m5⟩ := nd_ap n4
    obtain ⟨i1, i3, i2⟩ := nin_inv n2
    obtain ⟨j1, j3, j2⟩ := dis_inv (dis_symm n5)
    have q1 := a1.bd; have q2 := a2.bd
    simp only [dp_nil, dp_nd, sz] at br hsr
    exact (balC_any b c ll lr l k v d k2 v2 d2 w hB hC t1 t2 tl i1 i2 i3 n1 m1 m2 j1 (by omega) (by omega) (by omega) (by omega) a6 a7).mono fun e x ⟨h1, h2, h3, h4, h5, h6, h7⟩ => ⟨h1, ⟨h3, ⟨h2, h6, h5⟩, h4⟩, h7.mono fun q _ hq => by rcases hq with rfl | rfl <;> simp [bk]⟩
  · intro c ll k2 v2 d2 g el k3 v3 d3 er e a1 a2 a3 a4 a5 a6 a7 a8 a9 a10; subst e
    obtain ⟨hC, ⟨hG, t3, t2⟩, t1⟩ := tr
    obtain ⟨m2, m1, m4, m3, m5⟩ := nd_ap n4
    obtain ⟨p2, p1, p4, p3, p5⟩ := nd_ap m4
    obtain ⟨i1, i3, i2⟩ := nin_inv n2
    obtain ⟨i4, i6, i5⟩ := nin_inv i3
    obtain ⟨o1, o3, o2⟩ := nin_inv m2
    obtain ⟨j1, j3, j2⟩ := dis_inv (dis_symm n5)
    obtain ⟨j4, j6, j5⟩ := dis_inv j3
    obtain ⟨s1, s3, s2⟩ := dis_inv m5
    have q1 := a1.bd; have q2 := a2.bd; have q3 := a3.bd; have q4 := mx_bd3 (a := dp er) (b := dp el)
    simp only [dp_nil, dp_nd, sz] at br hsr
    exact (balD_any b c g ll el er l k v d k2 v2 d2 k3 v3 d3 w hB hC hG t1 t2 t3 tl i1 i4 o1 i2 i5 i6 n1 m1 o2 o3 j1 s1 p1 p2 j4 (by omega) (by omega) (by omega) (by omega) (by omega) (by omega) a9 a10).mono fun e x ⟨h1, h2, h3, h4, h5, h6, h7, h8, h9⟩ => ⟨h1, ⟨h4, ⟨h2, h8, h7⟩, h3, h6, h5⟩, h9.mono fun q _ hq => by rcases hq with rfl | rfl | rfl <;> simp [bk]⟩
  · intro a1 a2
    exact (balE_any b l k v d r w hB tl tr n1 n2 (by omega) (by omega) a1 a2).mono fun e x ⟨h1, h2, h3, h4, h5⟩ => ⟨h1, ⟨h2, h3, h4⟩, h5.mono fun q _ hq => by subst hq; simp [bk]⟩

end Go.Proofs.Ytbjbcbbhmbpndaa

/- Package tree: put. Conditions: a flat tree of at most 90000 keys. -/
namespace Go.Proofs.Ytbjbcbbhmbpndaa
open Go.RowKit Go.PlainAid
set_option linter.unusedVariables false
set_option linter.unusedSimpArgs false


theorem tbl_flip : ∀ (x y : List UInt8), (Op.bytesLess x y || x == y) = !Op.bytesLess y x
  | [], [] => rfl
  | [], _ :: _ => rfl
  | _ :: _, [] => rfl
  | a :: x, b :: y => by
    have ih := tbl_flip x y
    show ((decide (a < b) || (a == b && Op.bytesLess x y)) || (a == b && x == y)) = !(decide (b < a) || (b == a && Op.bytesLess y x))
    rcases Nat.lt_trichotomy a.toNat b.toNat with h | h | h
    · have h1 : a < b := h
      have h2 : ¬ b < a := fun q => by have : b.toNat < a.toNat := q; omega
      have h3 : ¬ b = a := fun q => by subst q; omega
      simp [h1, h2, h3]
    · have e : a = b := UInt8.toNat.inj h
      subst e
      have h2 : ¬ a < a := fun q => by have : a.toNat < a.toNat := q; omega
      simp [h2]; simpa using ih
    · have h1 : ¬ a < b := fun q => by have : a.toNat < b.toNat := q; omega
      have h2 : b < a := h
      have h3 : ¬ a = b := fun q => by subst q; omega
      simp [h1, h2, h3]
/-- One key is below another. -/
def klt (a b : ByteArray) : Bool := Op.bytesLess a.toList b.toList
theorem klt_gt {a b : ByteArray} {z : Bool} (h : (!(Op.bytesLess a.toList b.toList || a.toList == b.toList)) = z) : klt b a = z := by rw [tbl_flip] at h; unfold klt; rw [← h]; simp
def putT : Tm → ByteArray → SlT → Nat → Tm
  | .nil, k, v, N => .nd N .nil k v 1 .nil
  | .nd b l k' v' d r, k, v, N => if klt k k' = true then balT (.nd b (putT l k v N) k' v' d r) else if klt k' k = true then balT (.nd b l k' v' d (putT r k v N)) else .nd b l k' v d r
def hasT : Tm → ByteArray → Bool
  | .nil, _ => false
  | .nd _ l k' _ _ r, k => if klt k k' = true then hasT l k else if klt k' k = true then hasT r k else true
section
variable {b N : Nat} {l r t : Tm} {k k' : ByteArray} {v v' : SlT} {d : Int}
theorem putT_l (h : klt k k' = true) : putT (.nd b l k' v' d r) k v N = balT (.nd b (putT l k v N) k' v' d r) := by rw [putT, if_pos h]
theorem putT_r (h : klt k k' = false) (h2 : klt k' k = true) : putT (.nd b l k' v' d r) k v N = balT (.nd b l k' v' d (putT r k v N)) := by rw [putT, if_neg (by simp [h]), if_pos h2]
theorem putT_e (h : klt k k' = false) (h2 : klt k' k = false) : putT (.nd b l k' v' d r) k v N = .nd b l k' v d r := by rw [putT, if_neg (by simp [h]), if_neg (by simp [h2])]
theorem hasT_l (h : klt k k' = true) : hasT (.nd b l k' v' d r) k = hasT l k := by rw [hasT, if_pos h]
theorem hasT_r (h : klt k k' = false) (h2 : klt k' k = true) : hasT (.nd b l k' v' d r) k = hasT r k := by rw [hasT, if_neg (by simp [h]), if_pos h2]
theorem hasT_e (h : klt k k' = false) (h2 : klt k' k = false) : hasT (.nd b l k' v' d r) k = true := by rw [hasT, if_neg (by simp [h]), if_neg (by simp [h2])]
end
theorem put_avl (k : ByteArray) (v : SlT) (N : Nat) : ∀ t : Tm, Avl t → Avl (putT t k v N) ∧ dp t ≤ dp (putT t k v N) ∧ dp (putT t k v N) ≤ dp t + 1
  | .nil, _ => ⟨⟨trivial, trivial, rfl, by decide, by decide⟩, (by decide : (0 : Int) ≤ 1), (by decide : (1 : Int) ≤ 0 + 1)⟩
  | .nd b l k' v' d r, h => by
    obtain ⟨a1, a2, a3, a4, a5⟩ := h
    have m := mx_bd3 (a := dp l) (b := dp r)
    simp only [dp_nd]
    by_cases h1 : klt k k' = true
    · rw [putT_l h1]
      obtain ⟨i1, i2, i3⟩ := put_avl k v N l a1
      have m2 := mx_bd3 (a := dp (putT l k v N)) (b := dp r)
      obtain ⟨j1, j2, j3, j4⟩ := balT_avl (b := b) (k := k') (v := v') (d := d) i1 a2 (by omega) (by omega)
      by_cases h3 : dp (putT l k v N) - dp r ≤ 1
      · have := j4 h3 (by omega); exact ⟨j1, by omega, by omega⟩
      · exact ⟨j1, by omega, by omega⟩
    · by_cases h2 : klt k' k = true
      · rw [putT_r (by simpa using h1) h2]
        obtain ⟨i1, i2, i3⟩ := put_avl k v N r a2
        have m2 := mx_bd3 (a := dp l) (b := dp (putT r k v N))
        obtain ⟨j1, j2, j3, j4⟩ := balT_avl (b := b) (k := k') (v := v') (d := d) a1 i1 (by omega) (by omega)
        by_cases h3 : dp (putT r k v N) - dp l ≤ 1
        · have := j4 (by omega) h3; exact ⟨j1, by omega, by omega⟩
        · exact ⟨j1, by omega, by omega⟩
      · rw [putT_e (by simpa using h1) (by simpa using h2)]
        exact ⟨⟨a1, a2, a3, a4, a5⟩, Int.le_refl _, by simp only [dp_nd]; omega⟩
theorem put_bk (k : ByteArray) (v : SlT) (N : Nat) : ∀ t : Tm, Avl t → (bk (putT t k v N)).Perm (if hasT t k = true then bk t else N :: bk t)
  | .nil, _ => by simp [putT, hasT, bk]
  | .nd b l k' v' d r, h => by
    obtain ⟨a1, a2, a3, a4, a5⟩ := h
    by_cases h1 : klt k k' = true
    · rw [putT_l h1, hasT_l h1]
      refine (balT_bk (put_avl k v N l a1).1 a2).trans ?_
      have ih := put_bk k v N l a1
      split
      · rename_i hh; rw [if_pos hh] at ih; exact (ih.append_right _).cons _
      · rename_i hh; rw [if_neg hh] at ih; exact ((ih.append_right _).cons _).trans (List.Perm.swap _ _ _)
    · by_cases h2 : klt k' k = true
      · have h1' : klt k k' = false := by simpa using h1
        rw [putT_r h1' h2, hasT_r h1' h2]
        refine (balT_bk a1 (put_avl k v N r a2).1).trans ?_
        have ih := put_bk k v N r a2
        split
        · rename_i hh; rw [if_pos hh] at ih; exact (ih.append_left _).cons _
        · rename_i hh; rw [if_neg hh] at ih
          exact List.perm_iff_count.2 fun a => by
            have := (List.perm_iff_count.1 ih) a
            simp only [bk, List.count_cons, List.count_append] at this ⊢; omega
      · have h1' : klt k k' = false := by simpa using h1
        have h2' : klt k' k = false := by simpa using h2
        rw [putT_e h1' h2', hasT_e h1' h2', if_pos rfl]; exact List.Perm.refl _
theorem put_mem {k : ByteArray} {v : SlT} {N q : Nat} {t : Tm} (h : Avl t) (hq : q ∈ bk (putT t k v N)) : q = N ∨ q ∈ bk t := by
  have := (put_bk k v N t h).mem_iff.1 hq
  split at this
  · exact .inr this
  · rw [List.mem_cons] at this; exact this
theorem put_nd {k : ByteArray} {v : SlT} {N : Nat} {t : Tm} (h : Avl t) (hn : (bk t).Nodup) (hN : N ∉ bk t) : (bk (putT t k v N)).Nodup := by
  rw [(put_bk k v N t h).nodup_iff]
  split
  · exact hn
  · exact List.nodup_cons.2 ⟨hN, hn⟩
theorem put_sz (k : ByteArray) (v : SlT) (N : Nat) : ∀ t : Tm, Avl t → sz (putT t k v N) = sz t + (if hasT t k = true then 0 else 1)
  | .nil, _ => rfl
  | .nd b l k' v' d r, h => by
    obtain ⟨a1, a2, a3, a4, a5⟩ := h
    by_cases h1 : klt k k' = true
    · rw [putT_l h1, hasT_l h1, balT_sz (put_avl k v N l a1).1 a2, put_sz k v N l a1]; simp only [sz]; omega
    · have h1' : klt k k' = false := by simpa using h1
      by_cases h2 : klt k' k = true
      · rw [putT_r h1' h2, hasT_r h1' h2, balT_sz a1 (put_avl k v N r a2).1, put_sz k v N r a2]; simp only [sz]; omega
      · have h2' : klt k' k = false := by simpa using h2
        rw [putT_e h1' h2', hasT_e h1' h2']; rfl

set_option maxRecDepth 100000 in
theorem put_any (t : Tm) (k : ByteArray) (v : SlT) (w : World) (hT : TreeAt w t) (hn : (bk t).Nodup) (ha : Avl t) (hs : sz t ≤ 90000) :
    Calls Try.prog 94 #[(ptT t), .string k, .slice v.a v.n v.c] w fun e w' => ∃ (N : Nat), e = .returned (.tuple #[(ptT (putT t k v N)), .bool (hasT t k)]) ∧ TreeAt w' (putT t k v N) ∧ w.heap.size ≤ N ∧ But (fun q => q ∈ bk t) w w' := by
 induction t generalizing w
 · skip
   have hB0 := But.refl (fun q => q ∈ bk Tm.nil) w
   refine co_enter (n := 63) Try.func94 rfl rfl rfl [(0, .pointer none), (1, .string k), (2, .slice v.a v.n v.c)] rfl (fun a h0 => ?_)
   refine co_seq ?_
   refine co_reg ?_
   refine pk0 (v := .pointer none) h0 rfl fun a1 h1 => ?_; clear h0
   refine pk0 (v := .bool false) h1 rfl fun a2 h2 => ?_; clear h1
   refine pl_nil ?_
   refine co_then ?_
   refine co_seq ?_
   refine co_seq ?_
   refine co_reg ?_
   refine pk0 (v := .pointer none) h2 rfl fun a3 h3 => ?_; clear h2
   refine pk0 (v := .bool true) h3 rfl fun a4 h4 => ?_; clear h3
   refine pl_nil ?_
   refine co_then ?_
   refine co_true h4 rfl ?_
   refine co_seq ?_
   refine co_reg ?_
   refine pk0 (v := .string k) h4 rfl fun a5 h5 => ?_; clear h4
   refine pk0 (v := .slice v.a v.n v.c) h5 rfl fun a6 h6 => ?_; clear h5
   refine pk0 (v := .agg #[.string k, .slice v.a v.n v.c, .int .i64 1, .pointer none, .pointer none]) h6 rfl fun a7 h7 => ?_; clear h6
   refine pw h7 rfl (op_new (v := fun N => pt N 0) (T := 180) (cs := #[.string k, .slice v.a v.n v.c, .int .i64 1, .pointer none, .pointer none]) (by kernel_rfl) (by kernel_rfl) (by kernel_rfl)) ?_; clear h7
   rintro _ w9 a8 ⟨N10, rfl, hN13, hz14, hk12, hg11⟩ h8
   have hz15 := hg11.size
   try dsimp only at h8
   refine pk0 (v := pt N10 0) h8 rfl fun a16 h16 => ?_; clear h8
   refine pk0 (v := .bool false) h16 rfl fun a17 h17 => ?_; clear h16
   refine pl_nil ?_
   refine co_then ?_
   refine wp_ret ?_
   refine co_thenR ?_
   refine co_ret2 h17 rfl rfl rfl ?_
   have hB18 := fbU_new hB0 hg11
   exact ⟨N10, rfl, ⟨hk12, trivial, trivial⟩, by omega, hB18⟩
 · rename_i b l k2 v2 d2 r ihl ihr
   have hB0 := But.refl (fun q => q ∈ bk (Tm.nd b l k2 v2 d2 r)) w
   obtain ⟨hB, hl, hr⟩ := hT; obtain ⟨n1, n2, n3, n4, n5⟩ := nd_ap hn; obtain ⟨a1, a2, a3, a4, a5⟩ := ha
   have hsz : 1 + sz l + sz r ≤ 90000 := hs
   have hl_hB := hB.lt
   have hSb : (fun q => q ∈ bk (Tm.nd b l k2 v2 d2 r)) b ∨ w.heap.size ≤ b := .inl (by simp [bk])
   refine co_enter (n := 63) Try.func94 rfl rfl rfl [(0, pt b 0), (1, .string k), (2, .slice v.a v.n v.c)] rfl (fun a h0 => ?_)
   refine co_seq ?_
   refine co_reg ?_
   refine pk0 (v := .pointer none) h0 rfl fun a19 h19 => ?_; clear h0
   refine pk0 (v := .bool false) h19 rfl fun a20 h20 => ?_; clear h19
   refine pl_nil ?_
   refine co_then ?_
   refine co_seq ?_
   refine co_seq ?_
   refine co_reg ?_
   refine pk0 (v := pt b 0) h20 rfl fun a21 h21 => ?_; clear h20
   refine pk0 (v := .bool false) h21 rfl fun a22 h22 => ?_; clear h21
   refine pl_nil ?_
   refine co_then ?_
   refine co_false h22 rfl ?_
   refine wp_skip ?_
   refine co_then ?_
   refine co_seq ?_
   refine co_reg ?_
   refine pk0 (v := .bool false) h22 rfl fun a23 h23 => ?_; clear h22
   refine pl_nil ?_
   refine co_then ?_
   refine co_seq ?_
   refine wp_block ?_
   refine co_seq ?_
   refine co_reg ?_
   refine pk0 (v := .string k) h23 rfl fun a24 h24 => ?_; clear h23
   refine pk0 (v := pt b 0) h24 rfl fun a25 h25 => ?_; clear h24
   refine pk0 (v := pt b 0) h25 rfl fun a26 h26 => ?_; clear h25
   refine pk0 (v := pt b 0) h26 rfl fun a27 h27 => ?_; clear h26
   refine pk (v := .string k2) h27 rfl (rn_load1 rfl rfl Try.isAgg9 (hB.cell rfl)) fun a28 h28 => ?_; clear h27
   refine pk0 (v := .bool (Op.bytesLess k.toList k2.toList)) h28 rfl fun a29 h29 => ?_; clear h28
   refine pk0 (v := .bool (Op.bytesLess k.toList k2.toList)) h29 rfl fun a30 h30 => ?_; clear h29
   refine pl_nil ?_
   refine co_then ?_
   cases hc31 : (Op.bytesLess k.toList k2.toList)
   ·
    rw [hc31] at h30
    refine co_false h30 rfl ?_
    refine co_seq ?_
    refine co_reg ?_
    refine pk0 (v := .string k) h30 rfl fun a32 h32 => ?_; clear h30
    refine pk0 (v := pt b 0) h32 rfl fun a33 h33 => ?_; clear h32
    refine pk0 (v := pt b 0) h33 rfl fun a34 h34 => ?_; clear h33
    refine pk0 (v := pt b 0) h34 rfl fun a35 h35 => ?_; clear h34
    refine pk (v := .string k2) h35 rfl (rn_load1 rfl rfl Try.isAgg9 (hB.cell rfl)) fun a36 h36 => ?_; clear h35
    refine pk0 (v := .bool (!(Op.bytesLess k.toList k2.toList || k.toList == k2.toList))) h36 rfl fun a37 h37 => ?_; clear h36
    refine pk0 (v := .bool (!(Op.bytesLess k.toList k2.toList || k.toList == k2.toList))) h37 rfl fun a38 h38 => ?_; clear h37
    refine pl_nil ?_
    refine co_then ?_
    cases hc39 : (!(Op.bytesLess k.toList k2.toList || k.toList == k2.toList))
    ·
     rw [hc39] at h38
     refine co_false h38 rfl ?_
     refine co_seq ?_
     refine co_reg ?_
     refine pk0 (v := pt b 0) h38 rfl fun a40 h40 => ?_; clear h38
     refine pk0 (v := .slice v.a v.n v.c) h40 rfl fun a41 h41 => ?_; clear h40
     refine pk0 (v := pt b 0) h41 rfl fun a42 h42 => ?_; clear h41
     refine pk0 (v := pt b 1) h42 rfl fun a43 h43 => ?_; clear h42
     refine pwD h43 rfl (op_store1 rfl rfl rfl rfl Try.sizeOf121 hB rfl) ?_; clear h43
     rintro _ w45 a44 ⟨hk46, hz47, hg48⟩ h44
     have hk46' : Blk w45 b 180 #[.string k2, .slice v.a v.n v.c, .int .i64 d2, (ptT l), (ptT r)] := hk46; clear hk46
     have hz49 := hg48.size
     refine pl_nil ?_
     refine co_then ?_
     refine co_seq ?_
     refine co_reg ?_
     refine pk0 (v := pt b 0) h44 rfl fun a50 h50 => ?_; clear h44
     refine pk0 (v := pt b 0) h50 rfl fun a51 h51 => ?_; clear h50
     refine pk0 (v := .bool true) h51 rfl fun a52 h52 => ?_; clear h51
     refine pl_nil ?_
     refine co_then ?_
     refine wp_ret ?_
     refine co_blockR ?_
     refine co_thenR ?_
     refine co_ret2 h52 rfl rfl rfl ?_
     have hT53 := hl.gr hg48 (fun q e => by cases e; exact n1)
     have hT54 := hr.gr hg48 (fun q e => by cases e; exact n2)
     have hB55 := fbU_at hB0 hg48 (fun hlt => by rcases hSb with hq | hq; exact hq; omega)
     have q1 : klt k k2 = false := hc31; have q2 := klt_gt hc39
     exact ⟨w.heap.size, by rw [putT_e q1 q2, hasT_e q1 q2]; rfl, by rw [putT_e q1 q2]; exact ⟨hk46', hT53, hT54⟩, Nat.le_refl _, hB55⟩
    ·
     rw [hc39] at h38
     refine co_true h38 rfl ?_
     refine co_reg ?_
     refine pk0 (v := pt b 0) h38 rfl fun a56 h56 => ?_; clear h38
     refine pk0 (v := pt b 0) h56 rfl fun a57 h57 => ?_; clear h56
     refine pk0 (v := pt b 0) h57 rfl fun a58 h58 => ?_; clear h57
     refine pk0 (v := pt b 4) h58 rfl fun a59 h59 => ?_; clear h58
     refine pk (v := (ptT r)) h59 rfl (rn_load1 rfl rfl Try.isAgg176 (hB.cell rfl)) fun a60 h60 => ?_; clear h59
     refine pk0 (v := .string k) h60 rfl fun a61 h61 => ?_; clear h60
     refine pk0 (v := .slice v.a v.n v.c) h61 rfl fun a62 h62 => ?_; clear h61
     have hlt69 := TreeAt.lt hr; have hlt70 := TreeAt.lt hl
     refine pw h62 rfl (op_call (args := #[(ptT r), .string k, .slice v.a v.n v.c]) (R := fun res xw => ∃ N, res = .tuple #[ptT (putT r k v N), .bool (hasT r k)] ∧ TreeAt xw (putT r k v N) ∧ w.heap.size ≤ N ∧ But (fun q => q ∈ bk r) w xw) rfl rfl rfl (by kernel_rfl) (by kernel_rfl) (Try.call94 _ _) (ihr w hr n4 a2 (by omega)) (by rintro e x ⟨N, rfl, h1, h2, h3⟩; exact ⟨_, rfl, N, rfl, h1, h2, h3⟩)) ?_; clear h62
     rintro _ w64 a63 ⟨N65, rfl, hT66, hN67, hb68⟩ h63
     have av71 := put_avl k v N65 r a2
     have ni72 : b ∉ bk (putT r k v N65) := fun hq => by rcases put_mem a2 hq with h | h; omega; exact n2 h
     have di73 : ∀ q ∈ bk (putT r k v N65), q ∉ bk l := fun q hq hq2 => by rcases put_mem a2 hq with h | h; (have := hlt70 q hq2; omega); exact (dis_symm n5) q h hq2
     have no74 := put_nd (k := k) (v := v) (N := N65) a2 n4 (fun hq => by have := hlt69 _ hq; omega)
     have sz75 := put_sz k v N65 r a2; have sz75b : sz (putT r k v N65) ≤ sz r + 1 := by rw [sz75]; split <;> omega
     have hB76 := fbU_foot hB0 hb68 (fun i hi hS => by simp only [bk, List.mem_cons, List.mem_append]; exact .inr (.inr hS))
     have hz77 := hb68.size
     refine pk0 (v := .tuple #[(ptT (putT r k v N65)), .bool (hasT r k)]) h63 rfl fun a78 h78 => ?_; clear h63
     refine pk0 (v := (ptT (putT r k v N65))) h78 rfl fun a79 h79 => ?_; clear h78
     refine pk0 (v := .bool (hasT r k)) h79 rfl fun a80 h80 => ?_; clear h79
     refine pk0 (v := pt b 0) h80 rfl fun a81 h81 => ?_; clear h80
     refine pk0 (v := pt b 4) h81 rfl fun a82 h82 => ?_; clear h81
     have hk88 := Blk.butS hB hb68 (fun hq => absurd hq n2)
     refine pwD h82 rfl (op_store1 rfl rfl rfl (ptT_one _) Try.sizeOf176 hk88 rfl) ?_; clear h82
     rintro _ w84 a83 ⟨hk85, hz86, hg87⟩ h83
     have hk85' : Blk w84 b 180 #[.string k2, .slice v2.a v2.n v2.c, .int .i64 d2, (ptT l), (ptT (putT r k v N65))] := hk85; clear hk85
     have hz89 := hg87.size
     refine pk0 (v := .bool (hasT r k)) h83 rfl fun a90 h90 => ?_; clear h83
     refine pl_nil ?_
     refine co_blockN ?_
     refine co_then ?_
     refine co_seq ?_
     refine co_reg ?_
     refine pk0 (v := pt b 0) h90 rfl fun a91 h91 => ?_; clear h90
     have hB94 := fbU_at hB76 hg87 (fun hlt => by rcases hSb with hq | hq; exact hq; omega)
     have hT95 := TreeAt.but hl hb68 (fun q hq => (n5 q hq))
     have hT96 := hT95.gr hg87 (fun q e => by cases e; exact n1)
     have hT97 := hT66.gr hg87 (fun q e => by cases e; exact ni72)
     refine pw h91 rfl (op_call (args := #[pt b 0]) (R := fun res xw => res = ptT (balT (Tm.nd b l k2 v2 d2 (putT r k v N65))) ∧ TreeAt xw (balT (Tm.nd b l k2 v2 d2 (putT r k v N65))) ∧ But (fun q => q ∈ bk (Tm.nd b l k2 v2 d2 (putT r k v N65))) w84 xw) rfl rfl rfl (by kernel_rfl) (by kernel_rfl) (Try.call121 _ _) (balance_any b l k2 v2 d2 (putT r k v N65) w84 ⟨hk85', hT96, hT97⟩ (nd_ap' n1 ni72 n3 no74 (dis_symm di73)) a1 av71.1 (by omega) (by omega)) (by rintro e x ⟨rfl, h1, h2⟩; exact ⟨_, rfl, rfl, h1, h2⟩)) ?_; clear h91
     rintro _ w93 a92 ⟨rfl, hT98, hb99⟩ h92
     have hB100 := fbU_foot hB94 hb99 (fun i hi hS => by simp only [bk, List.mem_cons, List.mem_append] at hS ⊢; rcases hS with h | h | h; exact .inl h; exact .inr (.inl h); (rcases put_mem a2 h with h | h; omega; exact .inr (.inr h)))
     have hz101 := hb99.size
     refine pk0 (v := .bool (hasT r k)) h92 rfl fun a102 h102 => ?_; clear h92
     refine pk0 (v := (ptT (balT (Tm.nd b l k2 v2 d2 (putT r k v N65))))) h102 rfl fun a103 h103 => ?_; clear h102
     refine pk0 (v := .bool (hasT r k)) h103 rfl fun a104 h104 => ?_; clear h103
     refine pl_nil ?_
     refine co_then ?_
     refine wp_ret ?_
     refine co_ret2 h104 rfl rfl rfl ?_
     have q1 : klt k k2 = false := hc31; have q2 := klt_gt hc39
     exact ⟨N65, by rw [putT_r q1 q2, hasT_r q1 q2], by rw [putT_r q1 q2]; exact hT98, by omega, hB100⟩
   ·
    rw [hc31] at h30
    refine co_true h30 rfl ?_
    refine co_reg ?_
    refine pk0 (v := pt b 0) h30 rfl fun a105 h105 => ?_; clear h30
    refine pk0 (v := pt b 0) h105 rfl fun a106 h106 => ?_; clear h105
    refine pk0 (v := pt b 0) h106 rfl fun a107 h107 => ?_; clear h106
    refine pk0 (v := pt b 3) h107 rfl fun a108 h108 => ?_; clear h107
    refine pk (v := (ptT l)) h108 rfl (rn_load1 rfl rfl Try.isAgg176 (hB.cell rfl)) fun a109 h109 => ?_; clear h108
    refine pk0 (v := .string k) h109 rfl fun a110 h110 => ?_; clear h109
    refine pk0 (v := .slice v.a v.n v.c) h110 rfl fun a111 h111 => ?_; clear h110
    have hlt118 := TreeAt.lt hl; have hlt119 := TreeAt.lt hr
    refine pw h111 rfl (op_call (args := #[(ptT l), .string k, .slice v.a v.n v.c]) (R := fun res xw => ∃ N, res = .tuple #[ptT (putT l k v N), .bool (hasT l k)] ∧ TreeAt xw (putT l k v N) ∧ w.heap.size ≤ N ∧ But (fun q => q ∈ bk l) w xw) rfl rfl rfl (by kernel_rfl) (by kernel_rfl) (Try.call94 _ _) (ihl w hl n3 a1 (by omega)) (by rintro e x ⟨N, rfl, h1, h2, h3⟩; exact ⟨_, rfl, N, rfl, h1, h2, h3⟩)) ?_; clear h111
    rintro _ w113 a112 ⟨N114, rfl, hT115, hN116, hb117⟩ h112
    have av120 := put_avl k v N114 l a1
    have ni121 : b ∉ bk (putT l k v N114) := fun hq => by rcases put_mem a1 hq with h | h; omega; exact n1 h
    have di122 : ∀ q ∈ bk (putT l k v N114), q ∉ bk r := fun q hq hq2 => by rcases put_mem a1 hq with h | h; (have := hlt119 q hq2; omega); exact n5 q h hq2
    have no123 := put_nd (k := k) (v := v) (N := N114) a1 n3 (fun hq => by have := hlt118 _ hq; omega)
    have sz124 := put_sz k v N114 l a1; have sz124b : sz (putT l k v N114) ≤ sz l + 1 := by rw [sz124]; split <;> omega
    have hB125 := fbU_foot hB0 hb117 (fun i hi hS => by simp only [bk, List.mem_cons, List.mem_append]; exact .inr (.inl hS))
    have hz126 := hb117.size
    refine pk0 (v := .tuple #[(ptT (putT l k v N114)), .bool (hasT l k)]) h112 rfl fun a127 h127 => ?_; clear h112
    refine pk0 (v := (ptT (putT l k v N114))) h127 rfl fun a128 h128 => ?_; clear h127
    refine pk0 (v := .bool (hasT l k)) h128 rfl fun a129 h129 => ?_; clear h128
    refine pk0 (v := pt b 0) h129 rfl fun a130 h130 => ?_; clear h129
    refine pk0 (v := pt b 3) h130 rfl fun a131 h131 => ?_; clear h130
    have hk137 := Blk.butS hB hb117 (fun hq => absurd hq n1)
    refine pwD h131 rfl (op_store1 rfl rfl rfl (ptT_one _) Try.sizeOf176 hk137 rfl) ?_; clear h131
    rintro _ w133 a132 ⟨hk134, hz135, hg136⟩ h132
    have hk134' : Blk w133 b 180 #[.string k2, .slice v2.a v2.n v2.c, .int .i64 d2, (ptT (putT l k v N114)), (ptT r)] := hk134; clear hk134
    have hz138 := hg136.size
    refine pk0 (v := .bool (hasT l k)) h132 rfl fun a139 h139 => ?_; clear h132
    refine pl_nil ?_
    refine co_blockN ?_
    refine co_then ?_
    refine co_seq ?_
    refine co_reg ?_
    refine pk0 (v := pt b 0) h139 rfl fun a140 h140 => ?_; clear h139
    have hB143 := fbU_at hB125 hg136 (fun hlt => by rcases hSb with hq | hq; exact hq; omega)
    have hT144 := TreeAt.but hr hb117 (fun q hq => ((dis_symm n5) q hq))
    have hT145 := hT144.gr hg136 (fun q e => by cases e; exact n2)
    have hT146 := hT115.gr hg136 (fun q e => by cases e; exact ni121)
    refine pw h140 rfl (op_call (args := #[pt b 0]) (R := fun res xw => res = ptT (balT (Tm.nd b (putT l k v N114) k2 v2 d2 r)) ∧ TreeAt xw (balT (Tm.nd b (putT l k v N114) k2 v2 d2 r)) ∧ But (fun q => q ∈ bk (Tm.nd b (putT l k v N114) k2 v2 d2 r)) w133 xw) rfl rfl rfl (by kernel_rfl) (by kernel_rfl) (Try.call121 _ _) (balance_any b (putT l k v N114) k2 v2 d2 r w133 ⟨hk134', hT146, hT145⟩ (nd_ap' ni121 n2 no123 n4 di122) av120.1 a2 (by omega) (by omega)) (by rintro e x ⟨rfl, h1, h2⟩; exact ⟨_, rfl, rfl, h1, h2⟩)) ?_; clear h140
    rintro _ w142 a141 ⟨rfl, hT147, hb148⟩ h141
    have hB149 := fbU_foot hB143 hb148 (fun i hi hS => by simp only [bk, List.mem_cons, List.mem_append] at hS ⊢; rcases hS with h | h | h; exact .inl h; (rcases put_mem a1 h with h | h; omega; exact .inr (.inl h)); exact .inr (.inr h))
    have hz150 := hb148.size
    refine pk0 (v := .bool (hasT l k)) h141 rfl fun a151 h151 => ?_; clear h141
    refine pk0 (v := (ptT (balT (Tm.nd b (putT l k v N114) k2 v2 d2 r)))) h151 rfl fun a152 h152 => ?_; clear h151
    refine pk0 (v := .bool (hasT l k)) h152 rfl fun a153 h153 => ?_; clear h152
    refine pl_nil ?_
    refine co_then ?_
    refine wp_ret ?_
    refine co_ret2 h153 rfl rfl rfl ?_
    have q1 : klt k k2 = true := hc31
    exact ⟨N114, by rw [putT_l q1, hasT_l q1], by rw [putT_l q1]; exact hT147, by omega, hB149⟩
end Go.Proofs.Ytbjbcbbhmbpndaa

/- Package tree: least; what del comes to. Conditions: none. -/
namespace Go.Proofs.Ytbjbcbbhmbpndaa
open Go.RowKit Go.PlainAid
set_option linter.unusedVariables false
set_option linter.unusedSimpArgs false


def isNil : Tm → Bool
  | .nil => true
  | .nd .. => false
theorem isNil_t {t : Tm} (h : isNil t = true) : t = .nil := by cases t with | nil => rfl | nd => cases h
theorem isNil_f {t : Tm} (h : isNil t = false) : ∃ b l k v d r, t = .nd b l k v d r := by cases t with | nil => cases h | nd b l k v d r => exact ⟨b, l, k, v, d, r, rfl⟩
section
variable {m : List (Nat × Value)} {o : Oper} {w : World} {q r : Operand} {T' : TypeId} {l : Tm}
set_option maxRecDepth 100000 in
theorem rn_eqPt (ho : o.op = .binOp .eql 176 q r T') (hq : ev m q = some (ptT l)) (hr : ev m r = some (.pointer none)) : (execOp (lk m) o).run Try.prog w = .ok (.value (.bool (isNil l))) w := by
  unfold execOp
  cases l with
  | nil => simp only [ho, lk_ev hq, lk_ev hr, ptT]; rfl
  | nd b l k v d r => simp only [ho, lk_ev hq, lk_ev hr, ptT]; rfl
set_option maxRecDepth 100000 in
theorem rn_nePt (ho : o.op = .binOp .neq 176 q r T') (hq : ev m q = some (ptT l)) (hr : ev m r = some (.pointer none)) : (execOp (lk m) o).run Try.prog w = .ok (.value (.bool (!(isNil l)))) w := by
  unfold execOp
  cases l with
  | nil => simp only [ho, lk_ev hq, lk_ev hr, ptT]; rfl
  | nd b l k v d r => simp only [ho, lk_ev hq, lk_ev hr, ptT]; rfl
end
/-- What the lowest key has. -/
def lmT : Tm → ByteArray × SlT
  | .nil => (⟨#[]⟩, ⟨none, 0, 0⟩)
  | .nd _ l k v _ _ => if isNil l = true then (k, v) else lmT l
def delT : Tm → ByteArray → Tm
  | .nil, _ => .nil
  | .nd b l k' v' d r, k => if klt k k' = true then balT (.nd b (delT l k) k' v' d r) else if klt k' k = true then balT (.nd b l k' v' d (delT r k))
    else if isNil l = true then r else if isNil r = true then l else balT (.nd b l (lmT r).1 (lmT r).2 d (delT r (lmT r).1))
section
variable {b N : Nat} {l r t : Tm} {k k' : ByteArray} {v v' : SlT} {d : Int}
theorem delT_l (h : klt k k' = true) : delT (.nd b l k' v' d r) k = balT (.nd b (delT l k) k' v' d r) := by rw [delT, if_pos h]
theorem delT_r (h : klt k k' = false) (h2 : klt k' k = true) : delT (.nd b l k' v' d r) k = balT (.nd b l k' v' d (delT r k)) := by rw [delT, if_neg (by simp [h]), if_pos h2]
theorem delT_e1 (h : klt k k' = false) (h2 : klt k' k = false) (h3 : isNil l = true) : delT (.nd b l k' v' d r) k = r := by rw [delT, if_neg (by simp [h]), if_neg (by simp [h2]), if_pos h3]
theorem delT_e2 (h : klt k k' = false) (h2 : klt k' k = false) (h3 : isNil l = false) (h4 : isNil r = true) : delT (.nd b l k' v' d r) k = l := by rw [delT, if_neg (by simp [h]), if_neg (by simp [h2]), if_neg (by simp [h3]), if_pos h4]
theorem delT_e3 (h : klt k k' = false) (h2 : klt k' k = false) (h3 : isNil l = false) (h4 : isNil r = false) : delT (.nd b l k' v' d r) k = balT (.nd b l (lmT r).1 (lmT r).2 d (delT r (lmT r).1)) := by rw [delT, if_neg (by simp [h]), if_neg (by simp [h2]), if_neg (by simp [h3]), if_neg (by simp [h4])]
theorem dp_nil' (h : isNil t = true) : dp t = 0 := by rw [isNil_t h]; rfl
end
/-- The ways of del. -/
theorem del_ways {P : Tm → ByteArray → Tm → Prop} (h0 : ∀ k, P .nil k .nil)
    (hl : ∀ b l k' v' d r k, klt k k' = true → P l k (delT l k) → P (.nd b l k' v' d r) k (balT (.nd b (delT l k) k' v' d r)))
    (hr : ∀ b l k' v' d r k, klt k k' = false → klt k' k = true → P r k (delT r k) → P (.nd b l k' v' d r) k (balT (.nd b l k' v' d (delT r k))))
    (h1 : ∀ b l k' v' d r k, klt k k' = false → klt k' k = false → isNil l = true → P (.nd b l k' v' d r) k r)
    (h2 : ∀ b l k' v' d r k, klt k k' = false → klt k' k = false → isNil l = false → isNil r = true → P (.nd b l k' v' d r) k l)
    (h3 : ∀ b l k' v' d r k, klt k k' = false → klt k' k = false → isNil l = false → isNil r = false → P r (lmT r).1 (delT r (lmT r).1) → P (.nd b l k' v' d r) k (balT (.nd b l (lmT r).1 (lmT r).2 d (delT r (lmT r).1)))) : ∀ t k, P t k (delT t k) := by
  intro t
  induction t with
  | nil => exact h0
  | nd b l k' v' d r ihl ihr =>
    intro k
    by_cases q1 : klt k k' = true
    · rw [delT_l q1]; exact hl _ _ _ _ _ _ _ q1 (ihl k)
    · have q1 : klt k k' = false := by simpa using q1
      by_cases q2 : klt k' k = true
      · rw [delT_r q1 q2]; exact hr _ _ _ _ _ _ _ q1 q2 (ihr k)
      · have q2 : klt k' k = false := by simpa using q2
        by_cases q3 : isNil l = true
        · rw [delT_e1 q1 q2 q3]; exact h1 _ _ _ _ _ _ _ q1 q2 q3
        · have q3 : isNil l = false := by simpa using q3
          by_cases q4 : isNil r = true
          · rw [delT_e2 q1 q2 q3 q4]; exact h2 _ _ _ _ _ _ _ q1 q2 q3 q4
          · have q4 : isNil r = false := by simpa using q4
            rw [delT_e3 q1 q2 q3 q4]; exact h3 _ _ _ _ _ _ _ q1 q2 q3 q4 (ihr _)
theorem del_avl : ∀ t k, Avl t → Avl (delT t k) ∧ dp (delT t k) ≤ dp t ∧ dp t ≤ dp (delT t k) + 1 := by
  refine del_ways (P := fun t k u => Avl t → Avl u ∧ dp u ≤ dp t ∧ dp t ≤ dp u + 1) ?_ ?_ ?_ ?_ ?_ ?_
  · intro k _; exact ⟨trivial, Int.le_refl _, by show (0 : Int) ≤ 0 + 1; decide⟩
  · intro b l k' v' d r k _ ih ⟨a1, a2, a3, a4, a5⟩
    obtain ⟨i1, i2, i3⟩ := ih a1
    have m := mx_bd3 (a := dp l) (b := dp r); have m2 := mx_bd3 (a := dp (delT l k)) (b := dp r)
    obtain ⟨j1, j2, j3, j4⟩ := balT_avl (b := b) (k := k') (v := v') (d := d) i1 a2 (by omega) (by omega)
    rw [dp_nd]
    by_cases h3 : dp r - dp (delT l k) ≤ 1
    · have := j4 (by omega) h3; exact ⟨j1, by omega, by omega⟩
    · exact ⟨j1, by omega, by omega⟩
  · intro b l k' v' d r k _ _ ih ⟨a1, a2, a3, a4, a5⟩
    obtain ⟨i1, i2, i3⟩ := ih a2
    have m := mx_bd3 (a := dp l) (b := dp r); have m2 := mx_bd3 (a := dp l) (b := dp (delT r k))
    obtain ⟨j1, j2, j3, j4⟩ := balT_avl (b := b) (k := k') (v := v') (d := d) a1 i1 (by omega) (by omega)
    rw [dp_nd]
    by_cases h3 : dp l - dp (delT r k) ≤ 1
    · have := j4 h3 (by omega); exact ⟨j1, by omega, by omega⟩
    · exact ⟨j1, by omega, by omega⟩
  · intro b l k' v' d r k _ _ h3 ⟨a1, a2, a3, a4, a5⟩
    have := dp_nil' h3; have m := mx_bd3 (a := dp l) (b := dp r); have := a2.bd
    rw [dp_nd]; exact ⟨a2, by omega, by omega⟩
  · intro b l k' v' d r k _ _ _ h4 ⟨a1, a2, a3, a4, a5⟩
    have := dp_nil' h4; have m := mx_bd3 (a := dp l) (b := dp r); have := a1.bd
    rw [dp_nd]; exact ⟨a1, by omega, by omega⟩
  · intro b l k' v' d r k _ _ _ _ ih ⟨a1, a2, a3, a4, a5⟩
    obtain ⟨i1, i2, i3⟩ := ih a2
    have m := mx_bd3 (a := dp l) (b := dp r); have m2 := mx_bd3 (a := dp l) (b := dp (delT r (lmT r).1))
    obtain ⟨j1, j2, j3, j4⟩ := balT_avl (b := b) (k := (lmT r).1) (v := (lmT r).2) (d := d) a1 i1 (by omega) (by omega)
    rw [dp_nd]
    by_cases h3 : dp l - dp (delT r (lmT r).1) ≤ 1
    · have := j4 h3 (by omega); exact ⟨j1, by omega, by omega⟩
    · exact ⟨j1, by omega, by omega⟩
/-- No block comes twice, and none is new. -/
theorem del_bk : ∀ t k, Avl t → (bk t).Nodup → (∀ q ∈ bk (delT t k), q ∈ bk t) ∧ (bk (delT t k)).Nodup := by
  have key : ∀ {b : Nat} {l r u : Tm} {k v d k' v'}, Avl l → Avl u → (bk (.nd b l k v d r)).Nodup → (∀ q ∈ bk u, q ∈ bk r) → (bk u).Nodup → (∀ q ∈ bk (balT (.nd b l k' v' d u)), q ∈ bk (.nd b l k v d r)) ∧ (bk (balT (.nd b l k' v' d u))).Nodup := by
    intro b l r u k v d k' v' a1 a2 hn hs hu
    obtain ⟨n1, n2, n3, n4, n5⟩ := nd_ap hn
    have hp := balT_bk (b := b) (k := k') (v := v') (d := d) a1 a2
    refine ⟨fun q hq => ?_, hp.nodup_iff.2 (nd_ap' n1 (fun h => n2 (hs _ h)) n3 hu (fun q hq hq2 => n5 q hq (hs q hq2)))⟩
    have := hp.mem_iff.1 hq
    simp only [bk, List.mem_cons, List.mem_append] at this ⊢
    rcases this with h | h | h
    · exact .inl h
    · exact .inr (.inl h)
    · exact .inr (.inr (hs q h))
  refine del_ways (P := fun t k u => Avl t → (bk t).Nodup → (∀ q ∈ bk u, q ∈ bk t) ∧ (bk u).Nodup) ?_ ?_ ?_ ?_ ?_ ?_
  · intro k _ _; exact ⟨fun q hq => hq, by simp [bk]⟩
  · intro b l k' v' d r k _ ih ⟨a1, a2, a3, a4, a5⟩ hn
    obtain ⟨n1, n2, n3, n4, n5⟩ := nd_ap hn
    obtain ⟨i1, i2⟩ := ih a1 n3
    have hp := balT_bk (b := b) (k := k') (v := v') (d := d) (del_avl l k a1).1 a2
    refine ⟨fun q hq => ?_, hp.nodup_iff.2 (nd_ap' (fun h => n1 (i1 _ h)) n2 i2 n4 (fun q hq hq2 => n5 q (i1 q hq) hq2))⟩
    have := hp.mem_iff.1 hq
    simp only [bk, List.mem_cons, List.mem_append] at this ⊢
    rcases this with h | h | h
    · exact .inl h
    · exact .inr (.inl (i1 q h))
    · exact .inr (.inr h)
  · intro b l k' v' d r k _ _ ih ⟨a1, a2, a3, a4, a5⟩ hn
    obtain ⟨n1, n2, n3, n4, n5⟩ := nd_ap hn
    obtain ⟨i1, i2⟩ := ih a2 n4
    exact key a1 (del_avl r k a2).1 hn i1 i2
  · intro b l k' v' d r k _ _ _ _ hn
    exact ⟨fun q hq => by simp [bk, hq], (nd_ap hn).2.2.2.1⟩
  · intro b l k' v' d r k _ _ _ _ _ hn
    exact ⟨fun q hq => by simp [bk, hq], (nd_ap hn).2.2.1⟩
  · intro b l k' v' d r k _ _ _ _ ih ⟨a1, a2, a3, a4, a5⟩ hn
    obtain ⟨n1, n2, n3, n4, n5⟩ := nd_ap hn
    obtain ⟨i1, i2⟩ := ih a2 n4
    exact key a1 (del_avl r _ a2).1 hn i1 i2
theorem del_sz : ∀ t k, Avl t → sz (delT t k) ≤ sz t ∧ sz t ≤ sz (delT t k) + 1 := by
  refine del_ways (P := fun t k u => Avl t → sz u ≤ sz t ∧ sz t ≤ sz u + 1) ?_ ?_ ?_ ?_ ?_ ?_
  · intro k _; exact ⟨Nat.le_refl _, by simp [sz]⟩
  · intro b l k' v' d r k _ ih ⟨a1, a2, a3, a4, a5⟩
    have := ih a1; rw [balT_sz (del_avl l k a1).1 a2]; simp only [sz]; omega
  · intro b l k' v' d r k _ _ ih ⟨a1, a2, a3, a4, a5⟩
    have := ih a2; rw [balT_sz a1 (del_avl r k a2).1]; simp only [sz]; omega
  · intro b l k' v' d r k _ _ h3 _
    rw [isNil_t h3]; simp only [sz]; omega
  · intro b l k' v' d r k _ _ _ h4 _
    rw [isNil_t h4]; simp only [sz]; omega
  · intro b l k' v' d r k _ _ _ _ ih ⟨a1, a2, a3, a4, a5⟩
    have := ih a2; rw [balT_sz a1 (del_avl r _ a2).1]; simp only [sz]; omega
theorem lmT_nil {b : Nat} {l r : Tm} {k : ByteArray} {v : SlT} {d : Int} (h : isNil l = true) : lmT (.nd b l k v d r) = (k, v) := by rw [lmT, if_pos h]
theorem lmT_nd {b : Nat} {l r : Tm} {k : ByteArray} {v : SlT} {d : Int} (h : isNil l = false) : lmT (.nd b l k v d r) = lmT l := by rw [lmT, if_neg (by simp [h])]

set_option maxRecDepth 100000 in
theorem least_nd (b : Nat) (l : Tm) (k : ByteArray) (v : SlT) (d : Int) (r : Tm) (w : World) (hB : Blk w b 180 #[.string k, .slice v.a v.n v.c, .int .i64 d, (ptT l), (ptT r)]) (hl : TreeAt w l) :
    Calls Try.prog 126 #[pt b 0] w fun e w' => ∃ (c : Nat) (k1 : ByteArray) (v1 : SlT) (d1 : Int) (p1 : Value) (q1 : Value), e = .returned (pt c 0) ∧ lmT (Tm.nd b l k v d r) = (k1, v1) ∧ c ∈ bk (Tm.nd b l k v d r) ∧ Blk w' c 180 #[.string k1, .slice v1.a v1.n v1.c, .int .i64 d1, p1, q1] ∧ w = w' := by
 have hB0 := Below.refl w.heap.size w
 have hl_hB := hB.lt
 refine co_enter (n := 13) Try.func126 rfl rfl rfl [(0, pt b 0)] rfl (fun a h0 => ?_)
 refine co_seq ?_
 refine co_reg ?_
 refine pk0 (v := .pointer none) h0 rfl fun a1 h1 => ?_; clear h0
 refine pl_nil ?_
 refine co_then ?_
 refine co_seq ?_
 refine wp_block ?_
 have h2 : Slots 13 [(0, pt b 0)] _ := h1.sub ⟨rfl, trivial⟩; clear h1
 refine co_loop (fun mm a x => ∃ (c : Nat) (cl : Tm) (ck : ByteArray) (cv : SlT) (cd : Int) (cr : Tm), Slots 13 [(0, pt c 0)] a ∧ mm = 0 + sz cl ∧ (lmT (Tm.nd c cl ck cv cd cr) = lmT (Tm.nd b l k v d r)) ∧ (c ∈ bk (Tm.nd b l k v d r)) ∧ (∀ q ∈ bk cl, q ∈ bk (Tm.nd b l k v d r)) ∧ Blk x c 180 (ndV ck cv cd cl cr) ∧ TreeAt x cl ∧ w = x) (0 + sz l) ?_ ?_
 · exact ⟨b, l, k, v, d, r, h2.sub ⟨rfl, trivial⟩, rfl, by first | rfl | exact (lmT_nd (by rfl)).symm.trans (by assumption : lmT (Tm.nd c (Tm.nd c9 l9 k9 v9 d9 r9) ck cv cd cr) = lmT (Tm.nd b l k v d r)), by first | (simp [bk]; done) | exact (by assumption : ∀ q ∈ bk (Tm.nd c9 l9 k9 v9 d9 r9), q ∈ bk (Tm.nd b l k v d r)) c9 (by simp [bk]), by first | exact fun q hq => (by assumption : ∀ q ∈ bk (Tm.nd c9 l9 k9 v9 d9 r9), q ∈ bk (Tm.nd b l k v d r)) q (by simp [bk, hq]) | exact fun q hq => by simp [bk, hq], hB, hl, rfl⟩
 · rintro k3 a4 _ ⟨c, cl, ck, cv, cd, cr, h4, rfl, hi6, hi7, hi8, hf9, hf10, rfl⟩
   have hl12 := hf9.lt
   refine co_seq ?_
   refine co_seq ?_
   refine co_reg ?_
   refine pk0 (v := pt c 0) h4 rfl fun a13 h13 => ?_; clear h4
   refine pk0 (v := pt c 0) h13 rfl fun a14 h14 => ?_; clear h13
   refine pk0 (v := pt c 3) h14 rfl fun a15 h15 => ?_; clear h14
   refine pk (v := (ptT cl)) h15 rfl (rn_load1 rfl rfl Try.isAgg176 (hf9.cell rfl)) fun a16 h16 => ?_; clear h15
   refine pk (v := .bool (!(isNil cl))) h16 rfl (rn_nePt rfl rfl rfl) fun a17 h17 => ?_; clear h16
   refine pl_nil ?_
   refine co_then ?_
   cases hc18 : (!(isNil cl))
   ·
    rw [hc18] at h17
    refine co_false h17 rfl ?_
    refine wp_exit ?_
    refine co_thenX ?_
    refine co_thenX ?_
    refine co_blockX ?_
    refine co_then ?_
    refine co_seq ?_
    refine co_reg ?_
    refine pk0 (v := pt c 0) h17 rfl fun a19 h19 => ?_; clear h17
    refine pk0 (v := pt c 0) h19 rfl fun a20 h20 => ?_; clear h19
    refine pl_nil ?_
    refine co_then ?_
    refine wp_ret ?_
    refine co_ret1 h20 rfl rfl ?_
    have hn0 : isNil cl = true := by simpa using hc18
    exact ⟨c, ck, cv, cd, _, _, rfl, by rw [← (by assumption : lmT (Tm.nd c cl ck cv cd cr) = lmT (Tm.nd b l k v d r)), lmT_nil hn0], by assumption, hf9, rfl⟩
   ·
    rw [hc18] at h17
    refine co_true h17 rfl ?_
    refine wp_skip ?_
    refine co_then ?_
    refine wp_block ?_
    refine co_reg ?_
    refine pk0 (v := pt c 0) h17 rfl fun a21 h21 => ?_; clear h17
    refine pk0 (v := pt c 0) h21 rfl fun a22 h22 => ?_; clear h21
    refine pk0 (v := pt c 3) h22 rfl fun a23 h23 => ?_; clear h22
    refine pk (v := (ptT cl)) h23 rfl (rn_load1 rfl rfl Try.isAgg176 (hf9.cell rfl)) fun a24 h24 => ?_; clear h23
    refine pk0 (v := (ptT cl)) h24 rfl fun a25 h25 => ?_; clear h24
    refine pl_nil ?_
    refine co_blockN ?_
    refine co_then ?_
    obtain ⟨c9, l9, k9, v9, d9, r9, rfl⟩ := isNil_f (by simpa using hc18 : isNil cl = false)
    have hsz9 : sz (Tm.nd c9 l9 k9 v9 d9 r9) = 1 + sz l9 + sz r9 := rfl
    refine ⟨(0 + sz l9), by omega, ?_⟩
    exact ⟨c9, l9, k9, v9, d9, r9, h25.sub ⟨rfl, trivial⟩, rfl, by first | rfl | exact (lmT_nd (by rfl)).symm.trans (by assumption : lmT (Tm.nd c (Tm.nd c9 l9 k9 v9 d9 r9) ck cv cd cr) = lmT (Tm.nd b l k v d r)), by first | (simp [bk]; done) | exact (by assumption : ∀ q ∈ bk (Tm.nd c9 l9 k9 v9 d9 r9), q ∈ bk (Tm.nd b l k v d r)) c9 (by simp [bk]), by first | exact fun q hq => (by assumption : ∀ q ∈ bk (Tm.nd c9 l9 k9 v9 d9 r9), q ∈ bk (Tm.nd b l k v d r)) q (by simp [bk, hq]) | exact fun q hq => by simp [bk, hq], hf10.1, hf10.2.1, rfl⟩
end Go.Proofs.Ytbjbcbbhmbpndaa

/- Package tree: del. Conditions: a flat tree of at most 90000 keys. -/
namespace Go.Proofs.Ytbjbcbbhmbpndaa
open Go.RowKit Go.PlainAid
set_option linter.unusedVariables false
set_option linter.unusedSimpArgs false


theorem least_any (t : Tm) (w : World) (h : TreeAt w t) (hn : isNil t = false) : Calls Try.prog 126 #[ptT t] w fun e w' => ∃ c k v d p q, e = .returned (pt c 0) ∧ lmT t = (k, v) ∧ c ∈ bk t ∧ Blk w' c 180 #[.string k, .slice v.a v.n v.c, .int .i64 d, p, q] ∧ w = w' := by
  obtain ⟨b, l, k, v, d, r, rfl⟩ := isNil_f hn
  exact least_nd b l k v d r w h.1 h.2.1
theorem ne_of_mem {b c : Nat} {t : Tm} (h : b ∉ bk t) (hc : c ∈ bk t) : b ≠ c := fun e => h (e ▸ hc)

set_option maxRecDepth 100000 in
theorem del_any (t : Tm) (k : ByteArray) (w : World) (hT : TreeAt w t) (hn : (bk t).Nodup) (ha : Avl t) (hs : sz t ≤ 90000) :
    Calls Try.prog 97 #[(ptT t), .string k] w fun e w' => e = .returned (.tuple #[(ptT (delT t k)), .bool (hasT t k)]) ∧ TreeAt w' (delT t k) ∧ But (fun q => q ∈ bk t) w w' := by
 induction t generalizing w k
 · skip
   have hB0 := But.refl (fun q => q ∈ bk Tm.nil) w
   refine co_enter (n := 105) Try.func97 rfl rfl rfl [(0, .pointer none), (1, .string k)] rfl (fun a h0 => ?_)
   refine co_seq ?_
   refine co_reg ?_
   refine pk0 (v := .pointer none) h0 rfl fun a1 h1 => ?_; clear h0
   refine pk0 (v := .bool false) h1 rfl fun a2 h2 => ?_; clear h1
   refine pl_nil ?_
   refine co_then ?_
   refine co_seq ?_
   refine co_seq ?_
   refine co_reg ?_
   refine pk0 (v := .pointer none) h2 rfl fun a3 h3 => ?_; clear h2
   refine pk0 (v := .bool true) h3 rfl fun a4 h4 => ?_; clear h3
   refine pl_nil ?_
   refine co_then ?_
   refine co_true h4 rfl ?_
   refine co_seq ?_
   refine co_reg ?_
   refine pk0 (v := .pointer none) h4 rfl fun a5 h5 => ?_; clear h4
   refine pk0 (v := .bool false) h5 rfl fun a6 h6 => ?_; clear h5
   refine pl_nil ?_
   refine co_then ?_
   refine wp_ret ?_
   refine co_thenR ?_
   refine co_ret2 h6 rfl rfl rfl ?_
   exact ⟨rfl, trivial, hB0⟩
 · rename_i b l k2 v2 d2 r ihl ihr
   have hB0 := But.refl (fun q => q ∈ bk (Tm.nd b l k2 v2 d2 r)) w
   obtain ⟨hB, hl, hr⟩ := hT; obtain ⟨n1, n2, n3, n4, n5⟩ := nd_ap hn; obtain ⟨a1, a2, a3, a4, a5⟩ := ha
   have hsz : 1 + sz l + sz r ≤ 90000 := hs
   have hl_hB := hB.lt
   have hSb : (fun q => q ∈ bk (Tm.nd b l k2 v2 d2 r)) b ∨ w.heap.size ≤ b := .inl (by simp [bk])
   refine co_enter (n := 105) Try.func97 rfl rfl rfl [(0, pt b 0), (1, .string k)] rfl (fun a h0 => ?_)
   refine co_seq ?_
   refine co_reg ?_
   refine pk0 (v := .pointer none) h0 rfl fun a7 h7 => ?_; clear h0
   refine pk0 (v := .bool false) h7 rfl fun a8 h8 => ?_; clear h7
   refine pl_nil ?_
   refine co_then ?_
   refine co_seq ?_
   refine co_seq ?_
   refine co_reg ?_
   refine pk0 (v := pt b 0) h8 rfl fun a9 h9 => ?_; clear h8
   refine pk0 (v := .bool false) h9 rfl fun a10 h10 => ?_; clear h9
   refine pl_nil ?_
   refine co_then ?_
   refine co_false h10 rfl ?_
   refine wp_skip ?_
   refine co_then ?_
   refine co_seq ?_
   refine co_reg ?_
   refine pk0 (v := .bool true) h10 rfl fun a11 h11 => ?_; clear h10
   refine pl_nil ?_
   refine co_then ?_
   refine co_seq ?_
   refine wp_block ?_
   refine co_seq ?_
   refine co_reg ?_
   refine pk0 (v := .string k) h11 rfl fun a12 h12 => ?_; clear h11
   refine pk0 (v := pt b 0) h12 rfl fun a13 h13 => ?_; clear h12
   refine pk0 (v := pt b 0) h13 rfl fun a14 h14 => ?_; clear h13
   refine pk0 (v := pt b 0) h14 rfl fun a15 h15 => ?_; clear h14
   refine pk (v := .string k2) h15 rfl (rn_load1 rfl rfl Try.isAgg9 (hB.cell rfl)) fun a16 h16 => ?_; clear h15
   refine pk0 (v := .bool (Op.bytesLess k.toList k2.toList)) h16 rfl fun a17 h17 => ?_; clear h16
   refine pk0 (v := .bool (Op.bytesLess k.toList k2.toList)) h17 rfl fun a18 h18 => ?_; clear h17
   refine pl_nil ?_
   refine co_then ?_
   cases hc19 : (Op.bytesLess k.toList k2.toList)
   ·
    rw [hc19] at h18
    refine co_false h18 rfl ?_
    refine co_seq ?_
    refine co_reg ?_
    refine pk0 (v := .string k) h18 rfl fun a20 h20 => ?_; clear h18
    refine pk0 (v := pt b 0) h20 rfl fun a21 h21 => ?_; clear h20
    refine pk0 (v := pt b 0) h21 rfl fun a22 h22 => ?_; clear h21
    refine pk0 (v := pt b 0) h22 rfl fun a23 h23 => ?_; clear h22
    refine pk (v := .string k2) h23 rfl (rn_load1 rfl rfl Try.isAgg9 (hB.cell rfl)) fun a24 h24 => ?_; clear h23
    refine pk0 (v := .bool (!(Op.bytesLess k.toList k2.toList || k.toList == k2.toList))) h24 rfl fun a25 h25 => ?_; clear h24
    refine pk0 (v := .bool (!(Op.bytesLess k.toList k2.toList || k.toList == k2.toList))) h25 rfl fun a26 h26 => ?_; clear h25
    refine pl_nil ?_
    refine co_then ?_
    cases hc27 : (!(Op.bytesLess k.toList k2.toList || k.toList == k2.toList))
    ·
     rw [hc27] at h26
     refine co_false h26 rfl ?_
     refine co_seq ?_
     refine co_reg ?_
     refine pk0 (v := pt b 0) h26 rfl fun a28 h28 => ?_; clear h26
     refine pk0 (v := pt b 0) h28 rfl fun a29 h29 => ?_; clear h28
     refine pk0 (v := pt b 3) h29 rfl fun a30 h30 => ?_; clear h29
     refine pk (v := (ptT l)) h30 rfl (rn_load1 rfl rfl Try.isAgg176 (hB.cell rfl)) fun a31 h31 => ?_; clear h30
     refine pk (v := .bool (isNil l)) h31 rfl (rn_eqPt rfl rfl rfl) fun a32 h32 => ?_; clear h31
     refine pk0 (v := .bool (isNil l)) h32 rfl fun a33 h33 => ?_; clear h32
     refine pl_nil ?_
     refine co_then ?_
     cases hc34 : ((isNil l))
     ·
      rw [hc34] at h33
      refine co_false h33 rfl ?_
      refine co_seq ?_
      refine co_reg ?_
      refine pk0 (v := pt b 0) h33 rfl fun a35 h35 => ?_; clear h33
      refine pk0 (v := pt b 0) h35 rfl fun a36 h36 => ?_; clear h35
      refine pk0 (v := pt b 4) h36 rfl fun a37 h37 => ?_; clear h36
      refine pk (v := (ptT r)) h37 rfl (rn_load1 rfl rfl Try.isAgg176 (hB.cell rfl)) fun a38 h38 => ?_; clear h37
      refine pk (v := .bool (isNil r)) h38 rfl (rn_eqPt rfl rfl rfl) fun a39 h39 => ?_; clear h38
      refine pk0 (v := .bool (isNil r)) h39 rfl fun a40 h40 => ?_; clear h39
      refine pl_nil ?_
      refine co_then ?_
      cases hc41 : ((isNil r))
      ·
       rw [hc41] at h40
       refine co_false h40 rfl ?_
       refine co_seq ?_
       refine co_reg ?_
       refine pk0 (v := pt b 0) h40 rfl fun a42 h42 => ?_; clear h40
       refine pk0 (v := pt b 0) h42 rfl fun a43 h43 => ?_; clear h42
       refine pk0 (v := pt b 4) h43 rfl fun a44 h44 => ?_; clear h43
       refine pk (v := (ptT r)) h44 rfl (rn_load1 rfl rfl Try.isAgg176 (hB.cell rfl)) fun a45 h45 => ?_; clear h44
       refine pw h45 rfl (op_call (args := #[(ptT r)]) (R := fun res xw => ∃ c k v d p q, res = pt c 0 ∧ lmT r = (k, v) ∧ c ∈ bk r ∧ Blk xw c 180 #[.string k, .slice v.a v.n v.c, .int .i64 d, p, q] ∧ w = xw) rfl rfl rfl (by kernel_rfl) (by kernel_rfl) (Try.call126 _ _) (least_any r w hr hc41) (by rintro e x ⟨c, k, v, d, p, q, rfl, h⟩; exact ⟨_, rfl, c, k, v, d, p, q, rfl, h⟩)) ?_; clear h45
       rintro _ _ a46 ⟨c48, k49, v50, d51, p52, q53, rfl, hlm54, hc55, hB56, rfl⟩ h46
       have hne57 := ne_of_mem n2 hc55; have hl_c48 := hB56.lt
       refine pk0 (v := pt c48 0) h46 rfl fun a58 h58 => ?_; clear h46
       refine pl_nil ?_
       refine co_then ?_
       refine co_seq ?_
       refine dr_gen (fun x => But (fun q => q ∈ bk (Tm.nd b l k2 v2 d2 r)) w x ∧ Blk x c48 180 #[.string k49, .slice v50.a v50.n v50.c, .int .i64 d51, p52, q53]) (by kernel_rfl) (fun w59 hg60 => ?_) (fun w59 hg60 => ?_)
       ·
        have hz61 := hg60.size
        have hB62 := fbU_new hB0 hg60
        have hk63 := hB56.kept hg60 (by simp)
        exact ⟨hB62, hk63⟩
       have hz64 := hg60.size
       have hB65 := fbU_new hB0 hg60
       have hk66 := hB56.kept hg60 (by simp)
       refine dk0 0 (v := pt b 0) h58 rfl rfl ⟨hB65, hk66⟩ fun a67 h67 => ?_; clear h58
       refine dk0 1 (v := pt b 0) h67 rfl rfl ⟨hB65, hk66⟩ fun a68 h68 => ?_; clear h67
       refine dk0 2 (v := pt c48 0) h68 rfl rfl ⟨hB65, hk66⟩ fun a69 h69 => ?_; clear h68
       refine dk0 3 (v := pt c48 0) h69 rfl rfl ⟨hB65, hk66⟩ fun a70 h70 => ?_; clear h69
       refine dk0 4 (v := pt c48 0) h70 rfl rfl ⟨hB65, hk66⟩ fun a71 h71 => ?_; clear h70
       refine dk 5 (v := .string k49) h71 rfl rfl ⟨hB65, hk66⟩ (fun x hx => (rn_load1 rfl rfl Try.isAgg9 (hx.2.cell rfl))) fun a72 h72 => ?_; clear h71
       refine dk0 6 (v := pt c48 0) h72 rfl rfl ⟨hB65, hk66⟩ fun a73 h73 => ?_; clear h72
       refine dk0 7 (v := pt c48 0) h73 rfl rfl ⟨hB65, hk66⟩ fun a74 h74 => ?_; clear h73
       refine dk0 8 (v := pt c48 1) h74 rfl rfl ⟨hB65, hk66⟩ fun a75 h75 => ?_; clear h74
       refine dk 9 (v := .slice v50.a v50.n v50.c) h75 rfl rfl ⟨hB65, hk66⟩ (fun x hx => (rn_load1 rfl rfl Try.isAgg121 (hx.2.cell rfl))) fun a76 h76 => ?_; clear h75
       refine dk0 10 (v := pt b 0) h76 rfl rfl ⟨hB65, hk66⟩ fun a77 h77 => ?_; clear h76
       refine dk0 11 (v := pt b 0) h77 rfl rfl ⟨hB65, hk66⟩ fun a78 h78 => ?_; clear h77
       have hk84 := hB.kept hg60 (by simp)
       refine d1D 12 h78 rfl rfl (op_store1 rfl rfl rfl rfl Try.sizeOf9 hk84 rfl) ?_ ?_; clear h78
       ·
        rintro _ w80 ⟨hk81, hz82, hg83⟩
        have hk81' : Blk w80 b 180 #[.string k49, .slice v2.a v2.n v2.c, .int .i64 d2, (ptT l), (ptT r)] := hk81; clear hk81
        have hz85 := hg83.size
        have hB86 := fbU_at hB65 hg83 (fun hlt => by rcases hSb with hq | hq; exact hq; omega)
        have hk87 := hk66.kept hg83 (by simp; omega)
        exact ⟨hB86, hk87⟩
       rintro _ w80 a79 ⟨hk81, hz82, hg83⟩ h79
       have hk81' : Blk w80 b 180 #[.string k49, .slice v2.a v2.n v2.c, .int .i64 d2, (ptT l), (ptT r)] := hk81; clear hk81
       have hz85 := hg83.size
       have hB86 := fbU_at hB65 hg83 (fun hlt => by rcases hSb with hq | hq; exact hq; omega)
       have hk87 := hk66.kept hg83 (by simp; omega)
       refine dk0 13 (v := pt b 0) h79 rfl rfl ⟨hB86, hk87⟩ fun a88 h88 => ?_; clear h79
       refine dk0 14 (v := pt b 1) h88 rfl rfl ⟨hB86, hk87⟩ fun a89 h89 => ?_; clear h88
       refine d1D 15 h89 rfl rfl (op_store1 rfl rfl rfl rfl Try.sizeOf121 hk81' rfl) ?_ ?_; clear h89
       ·
        rintro _ w91 ⟨hk92, hz93, hg94⟩
        have hk92' : Blk w91 b 180 #[.string k49, .slice v50.a v50.n v50.c, .int .i64 d2, (ptT l), (ptT r)] := hk92; clear hk92
        have hz95 := hg94.size
        have hB96 := fbU_at hB86 hg94 (fun hlt => by rcases hSb with hq | hq; exact hq; omega)
        have hk97 := hk87.kept hg94 (by simp; omega)
        exact ⟨hB96, hk97⟩
       rintro _ w91 a90 ⟨hk92, hz93, hg94⟩ h90
       have hk92' : Blk w91 b 180 #[.string k49, .slice v50.a v50.n v50.c, .int .i64 d2, (ptT l), (ptT r)] := hk92; clear hk92
       have hz95 := hg94.size
       refine dr_done (by kernel_rfl) ?_
       refine co_then ?_
       refine dr_gen (fun x => But (fun q => q ∈ bk (Tm.nd b l k2 v2 d2 r)) w x) (by kernel_rfl) (fun w96 hg97 => ?_) (fun w96 hg97 => ?_)
       ·
        have hz98 := hg97.size
        have hB99 := fbU_at hB86 hg94 (fun hlt => by rcases hSb with hq | hq; exact hq; omega)
        have hB100 := fbU_new hB99 hg97
        exact hB100
       have hz101 := hg97.size
       have hB102 := fbU_at hB86 hg94 (fun hlt => by rcases hSb with hq | hq; exact hq; omega)
       have hB103 := fbU_new hB102 hg97
       refine dk0 0 (v := pt b 0) h90 rfl rfl hB103 fun a104 h104 => ?_; clear h90
       refine dk0 1 (v := pt b 0) h104 rfl rfl hB103 fun a105 h105 => ?_; clear h104
       refine dk0 2 (v := pt b 0) h105 rfl rfl hB103 fun a106 h106 => ?_; clear h105
       refine dk0 3 (v := pt b 4) h106 rfl rfl hB103 fun a107 h107 => ?_; clear h106
       refine dk0 5 (v := pt c48 0) h107 rfl rfl hB103 fun a108 h108 => ?_; clear h107
       refine dk0 6 (v := pt c48 0) h108 rfl rfl hB103 fun a109 h109 => ?_; clear h108
       refine dk0 7 (v := pt c48 0) h109 rfl rfl hB103 fun a110 h110 => ?_; clear h109
       refine dr_many [4, 8] (by kernel_rfl) (by simp) ⟨?_, ?_, trivial⟩
       ·
        have hk111 := hk92'.kept hg97 (by simp)
        refine dr_opVal (i := 4) (v := (ptT r)) h110 rfl rfl rfl rfl (by kernel_rfl) rfl (rn_load1 rfl rfl Try.isAgg176 (hk111.cell rfl)) hB103 (fun a112 h112 => ?_); clear h110
        refine dr_many [8] (by kernel_rfl) (by simp) ⟨?_, trivial⟩
        ·
         have hk113 := hk87.kept hg94 (by simp; omega)
         have hk114 := hk113.kept hg97 (by simp)
         refine dr_opVal (i := 8) (v := .string k49) h112 rfl rfl rfl rfl (by kernel_rfl) rfl (rn_load1 rfl rfl Try.isAgg9 (hk114.cell rfl)) hB103 (fun a115 h115 => ?_); clear h112
         have hT118 := hl.gr hg60 (fun q e => by cases e)
         have hT119 := hT118.gr hg83 (fun q e => by cases e; exact n1)
         have hT120 := hT119.gr hg94 (fun q e => by cases e; exact n1)
         have hT121 := hT120.gr hg97 (fun q e => by cases e)
         have hT122 := hr.gr hg60 (fun q e => by cases e)
         have hT123 := hT122.gr hg83 (fun q e => by cases e; exact n2)
         have hT124 := hT123.gr hg94 (fun q e => by cases e; exact n2)
         have hT125 := hT124.gr hg97 (fun q e => by cases e)
         refine d1 9 h115 rfl rfl (op_call (args := #[(ptT r), .string k49]) (R := fun res xw => res = .tuple #[ptT (delT r k49), .bool (hasT r k49)] ∧ TreeAt xw (delT r k49) ∧ But (fun q => q ∈ bk r) w96 xw) rfl rfl rfl (by kernel_rfl) (by kernel_rfl) (Try.call97 _ _) (ihr k49 w96 hT125 n4 a2 (by omega)) (by rintro e x ⟨rfl, h1, h3⟩; exact ⟨_, rfl, rfl, h1, h3⟩)) ?_ ?_; clear h115
         ·
          rintro _ w117 ⟨rfl, hT126, hb127⟩
          have av128 := del_avl r k49 a2; have mb129 := del_bk r k49 a2 n4; have sz130 := del_sz r k49 a2
          have hB131 := fbU_foot hB103 hb127 (fun i hi hS => by simp only [bk, List.mem_cons, List.mem_append]; exact .inr (.inr hS))
          have hz132 := hb127.size
          exact hB131
         rintro _ w117 a116 ⟨rfl, hT126, hb127⟩ h116
         have av128 := del_avl r k49 a2; have mb129 := del_bk r k49 a2 n4; have sz130 := del_sz r k49 a2
         have hB131 := fbU_foot hB103 hb127 (fun i hi hS => by simp only [bk, List.mem_cons, List.mem_append]; exact .inr (.inr hS))
         have hz132 := hb127.size
         refine dk0 10 (v := .tuple #[(ptT (delT r k49)), .bool (hasT r k49)]) h116 rfl rfl hB131 fun a133 h133 => ?_; clear h116
         refine dk0 11 (v := (ptT (delT r k49))) h133 rfl rfl hB131 fun a134 h134 => ?_; clear h133
         refine dk0 12 (v := .bool (hasT r k49)) h134 rfl rfl hB131 fun a135 h135 => ?_; clear h134
         refine dk0 13 (v := pt b 0) h135 rfl rfl hB131 fun a136 h136 => ?_; clear h135
         refine dk0 14 (v := pt b 4) h136 rfl rfl hB131 fun a137 h137 => ?_; clear h136
         have hk143 := Blk.butS hk111 hb127 (fun hq => absurd hq n2)
         refine d1D 15 h137 rfl rfl (op_store1 rfl rfl rfl (ptT_one _) Try.sizeOf176 hk143 rfl) ?_ ?_; clear h137
         ·
          rintro _ w139 ⟨hk140, hz141, hg142⟩
          have hk140' : Blk w139 b 180 #[.string k49, .slice v50.a v50.n v50.c, .int .i64 d2, (ptT l), (ptT (delT r k49))] := hk140; clear hk140
          have hz144 := hg142.size
          have hB145 := fbU_at hB131 hg142 (fun hlt => by rcases hSb with hq | hq; exact hq; omega)
          exact hB145
         rintro _ w139 a138 ⟨hk140, hz141, hg142⟩ h138
         have hk140' : Blk w139 b 180 #[.string k49, .slice v50.a v50.n v50.c, .int .i64 d2, (ptT l), (ptT (delT r k49))] := hk140; clear hk140
         have hz144 := hg142.size
         refine dr_done (by kernel_rfl) ?_
         refine co_blockN ?_
         refine co_then ?_
         refine co_seq ?_
         refine co_reg ?_
         refine pk0 (v := pt b 0) h138 rfl fun a145 h145 => ?_; clear h138
         have hB148 := fbU_at hB131 hg142 (fun hlt => by rcases hSb with hq | hq; exact hq; omega)
         have hT149 := TreeAt.but hT121 hb127 (fun q hq => (n5 q hq))
         have hT150 := hT149.gr hg142 (fun q e => by cases e; exact n1)
         have hT151 := hT126.gr hg142 (fun q e => by cases e; exact (fun hq => n2 (mb129.1 _ hq)))
         refine pw h145 rfl (op_call (args := #[pt b 0]) (R := fun res xw => res = ptT (balT (Tm.nd b l k49 v50 d2 (delT r k49))) ∧ TreeAt xw (balT (Tm.nd b l k49 v50 d2 (delT r k49))) ∧ But (fun q => q ∈ bk (Tm.nd b l k49 v50 d2 (delT r k49))) w139 xw) rfl rfl rfl (by kernel_rfl) (by kernel_rfl) (Try.call121 _ _) (balance_any b l k49 v50 d2 (delT r k49) w139 ⟨hk140', hT150, hT151⟩ (nd_ap' n1 (fun hq => n2 (mb129.1 _ hq)) n3 mb129.2 (dis_symm (fun q hq => (dis_symm n5) q (mb129.1 q hq)))) a1 av128.1 (by omega) (by omega)) (by rintro e x ⟨rfl, h1, h2⟩; exact ⟨_, rfl, rfl, h1, h2⟩)) ?_; clear h145
         rintro _ w147 a146 ⟨rfl, hT152, hb153⟩ h146
         have hB154 := fbU_foot hB148 hb153 (fun i hi hS => by simp only [bk, List.mem_cons, List.mem_append] at hS ⊢; rcases hS with h | h | h; exact .inl h; exact .inr (.inl h); exact .inr (.inr (mb129.1 _ h)))
         have hz155 := hb153.size
         refine pk0 (v := .bool true) h146 rfl fun a156 h156 => ?_; clear h146
         refine pk0 (v := (ptT (balT (Tm.nd b l k49 v50 d2 (delT r k49))))) h156 rfl fun a157 h157 => ?_; clear h156
         refine pk0 (v := .bool true) h157 rfl fun a158 h158 => ?_; clear h157
         refine pl_nil ?_
         refine co_then ?_
         refine wp_ret ?_
         refine co_ret2 h158 rfl rfl rfl ?_
         have q1 : klt k k2 = false := hc19; have q2 := klt_gt hc27
         have q3 := delT_e3 (b := b) (v' := v2) (d := d2) q1 q2 hc34 hc41; rw [hlm54] at q3
         exact ⟨by rw [q3, hasT_e q1 q2], by rw [q3]; exact hT152, hB154⟩
       ·
        have hk159 := hk87.kept hg94 (by simp; omega)
        have hk160 := hk159.kept hg97 (by simp)
        refine dr_opVal (i := 8) (v := .string k49) h110 rfl rfl rfl rfl (by kernel_rfl) rfl (rn_load1 rfl rfl Try.isAgg9 (hk160.cell rfl)) hB103 (fun a161 h161 => ?_); clear h110
        refine dr_many [4] (by kernel_rfl) (by simp) ⟨?_, trivial⟩
        ·
         have hk162 := hk92'.kept hg97 (by simp)
         refine dr_opVal (i := 4) (v := (ptT r)) h161 rfl rfl rfl rfl (by kernel_rfl) rfl (rn_load1 rfl rfl Try.isAgg176 (hk162.cell rfl)) hB103 (fun a163 h163 => ?_); clear h161
         have hT166 := hl.gr hg60 (fun q e => by cases e)
         have hT167 := hT166.gr hg83 (fun q e => by cases e; exact n1)
         have hT168 := hT167.gr hg94 (fun q e => by cases e; exact n1)
         have hT169 := hT168.gr hg97 (fun q e => by cases e)
         have hT170 := hr.gr hg60 (fun q e => by cases e)
         have hT171 := hT170.gr hg83 (fun q e => by cases e; exact n2)
         have hT172 := hT171.gr hg94 (fun q e => by cases e; exact n2)
         have hT173 := hT172.gr hg97 (fun q e => by cases e)
         refine d1 9 h163 rfl rfl (op_call (args := #[(ptT r), .string k49]) (R := fun res xw => res = .tuple #[ptT (delT r k49), .bool (hasT r k49)] ∧ TreeAt xw (delT r k49) ∧ But (fun q => q ∈ bk r) w96 xw) rfl rfl rfl (by kernel_rfl) (by kernel_rfl) (Try.call97 _ _) (ihr k49 w96 hT173 n4 a2 (by omega)) (by rintro e x ⟨rfl, h1, h3⟩; exact ⟨_, rfl, rfl, h1, h3⟩)) ?_ ?_; clear h163
         ·
          rintro _ w165 ⟨rfl, hT174, hb175⟩
          have av176 := del_avl r k49 a2; have mb177 := del_bk r k49 a2 n4; have sz178 := del_sz r k49 a2
          have hB179 := fbU_foot hB103 hb175 (fun i hi hS => by simp only [bk, List.mem_cons, List.mem_append]; exact .inr (.inr hS))
          have hz180 := hb175.size
          exact hB179
         rintro _ w165 a164 ⟨rfl, hT174, hb175⟩ h164
         have av176 := del_avl r k49 a2; have mb177 := del_bk r k49 a2 n4; have sz178 := del_sz r k49 a2
         have hB179 := fbU_foot hB103 hb175 (fun i hi hS => by simp only [bk, List.mem_cons, List.mem_append]; exact .inr (.inr hS))
         have hz180 := hb175.size
         refine dk0 10 (v := .tuple #[(ptT (delT r k49)), .bool (hasT r k49)]) h164 rfl rfl hB179 fun a181 h181 => ?_; clear h164
         refine dk0 11 (v := (ptT (delT r k49))) h181 rfl rfl hB179 fun a182 h182 => ?_; clear h181
         refine dk0 12 (v := .bool (hasT r k49)) h182 rfl rfl hB179 fun a183 h183 => ?_; clear h182
         refine dk0 13 (v := pt b 0) h183 rfl rfl hB179 fun a184 h184 => ?_; clear h183
         refine dk0 14 (v := pt b 4) h184 rfl rfl hB179 fun a185 h185 => ?_; clear h184
         have hk191 := Blk.butS hk162 hb175 (fun hq => absurd hq n2)
         refine d1D 15 h185 rfl rfl (op_store1 rfl rfl rfl (ptT_one _) Try.sizeOf176 hk191 rfl) ?_ ?_; clear h185
         ·
          rintro _ w187 ⟨hk188, hz189, hg190⟩
          have hk188' : Blk w187 b 180 #[.string k49, .slice v50.a v50.n v50.c, .int .i64 d2, (ptT l), (ptT (delT r k49))] := hk188; clear hk188
          have hz192 := hg190.size
          have hB193 := fbU_at hB179 hg190 (fun hlt => by rcases hSb with hq | hq; exact hq; omega)
          exact hB193
         rintro _ w187 a186 ⟨hk188, hz189, hg190⟩ h186
         have hk188' : Blk w187 b 180 #[.string k49, .slice v50.a v50.n v50.c, .int .i64 d2, (ptT l), (ptT (delT r k49))] := hk188; clear hk188
         have hz192 := hg190.size
         refine dr_done (by kernel_rfl) ?_
         refine co_blockN ?_
         refine co_then ?_
         refine co_seq ?_
         refine co_reg ?_
         refine pk0 (v := pt b 0) h186 rfl fun a193 h193 => ?_; clear h186
         have hB196 := fbU_at hB179 hg190 (fun hlt => by rcases hSb with hq | hq; exact hq; omega)
         have hT197 := TreeAt.but hT169 hb175 (fun q hq => (n5 q hq))
         have hT198 := hT197.gr hg190 (fun q e => by cases e; exact n1)
         have hT199 := hT174.gr hg190 (fun q e => by cases e; exact (fun hq => n2 (mb177.1 _ hq)))
         refine pw h193 rfl (op_call (args := #[pt b 0]) (R := fun res xw => res = ptT (balT (Tm.nd b l k49 v50 d2 (delT r k49))) ∧ TreeAt xw (balT (Tm.nd b l k49 v50 d2 (delT r k49))) ∧ But (fun q => q ∈ bk (Tm.nd b l k49 v50 d2 (delT r k49))) w187 xw) rfl rfl rfl (by kernel_rfl) (by kernel_rfl) (Try.call121 _ _) (balance_any b l k49 v50 d2 (delT r k49) w187 ⟨hk188', hT198, hT199⟩ (nd_ap' n1 (fun hq => n2 (mb177.1 _ hq)) n3 mb177.2 (dis_symm (fun q hq => (dis_symm n5) q (mb177.1 q hq)))) a1 av176.1 (by omega) (by omega)) (by rintro e x ⟨rfl, h1, h2⟩; exact ⟨_, rfl, rfl, h1, h2⟩)) ?_; clear h193
         rintro _ w195 a194 ⟨rfl, hT200, hb201⟩ h194
         have hB202 := fbU_foot hB196 hb201 (fun i hi hS => by simp only [bk, List.mem_cons, List.mem_append] at hS ⊢; rcases hS with h | h | h; exact .inl h; exact .inr (.inl h); exact .inr (.inr (mb177.1 _ h)))
         have hz203 := hb201.size
         refine pk0 (v := .bool true) h194 rfl fun a204 h204 => ?_; clear h194
         refine pk0 (v := (ptT (balT (Tm.nd b l k49 v50 d2 (delT r k49))))) h204 rfl fun a205 h205 => ?_; clear h204
         refine pk0 (v := .bool true) h205 rfl fun a206 h206 => ?_; clear h205
         refine pl_nil ?_
         refine co_then ?_
         refine wp_ret ?_
         refine co_ret2 h206 rfl rfl rfl ?_
         have q1 : klt k k2 = false := hc19; have q2 := klt_gt hc27
         have q3 := delT_e3 (b := b) (v' := v2) (d := d2) q1 q2 hc34 hc41; rw [hlm54] at q3
         exact ⟨by rw [q3, hasT_e q1 q2], by rw [q3]; exact hT200, hB202⟩
      ·
       rw [hc41] at h40
       refine co_true h40 rfl ?_
       refine co_seq ?_
       refine co_reg ?_
       refine pk0 (v := pt b 0) h40 rfl fun a207 h207 => ?_; clear h40
       refine pk0 (v := pt b 0) h207 rfl fun a208 h208 => ?_; clear h207
       refine pk0 (v := pt b 3) h208 rfl fun a209 h209 => ?_; clear h208
       refine pk (v := (ptT l)) h209 rfl (rn_load1 rfl rfl Try.isAgg176 (hB.cell rfl)) fun a210 h210 => ?_; clear h209
       refine pk0 (v := (ptT l)) h210 rfl fun a211 h211 => ?_; clear h210
       refine pk0 (v := .bool true) h211 rfl fun a212 h212 => ?_; clear h211
       refine pl_nil ?_
       refine co_then ?_
       refine wp_ret ?_
       refine co_blockR ?_
       refine co_thenR ?_
       refine co_ret2 h212 rfl rfl rfl ?_
       have q1 : klt k k2 = false := hc19; have q2 := klt_gt hc27
       have q3 := delT_e2 (b := b) (v' := v2) (d := d2) q1 q2 hc34 hc41
       exact ⟨by rw [q3, hasT_e q1 q2], by rw [q3]; exact hl, hB0⟩
     ·
      rw [hc34] at h33
      refine co_true h33 rfl ?_
      refine co_seq ?_
      refine co_reg ?_
      refine pk0 (v := pt b 0) h33 rfl fun a213 h213 => ?_; clear h33
      refine pk0 (v := pt b 0) h213 rfl fun a214 h214 => ?_; clear h213
      refine pk0 (v := pt b 4) h214 rfl fun a215 h215 => ?_; clear h214
      refine pk (v := (ptT r)) h215 rfl (rn_load1 rfl rfl Try.isAgg176 (hB.cell rfl)) fun a216 h216 => ?_; clear h215
      refine pk0 (v := (ptT r)) h216 rfl fun a217 h217 => ?_; clear h216
      refine pk0 (v := .bool true) h217 rfl fun a218 h218 => ?_; clear h217
      refine pl_nil ?_
      refine co_then ?_
      refine wp_ret ?_
      refine co_blockR ?_
      refine co_thenR ?_
      refine co_ret2 h218 rfl rfl rfl ?_
      have q1 : klt k k2 = false := hc19; have q2 := klt_gt hc27
      have q3 := delT_e1 (b := b) (v' := v2) (d := d2) (r := r) q1 q2 hc34
      exact ⟨by rw [q3, hasT_e q1 q2], by rw [q3]; exact hr, hB0⟩
    ·
     rw [hc27] at h26
     refine co_true h26 rfl ?_
     refine co_reg ?_
     refine pk0 (v := pt b 0) h26 rfl fun a219 h219 => ?_; clear h26
     refine pk0 (v := pt b 0) h219 rfl fun a220 h220 => ?_; clear h219
     refine pk0 (v := pt b 0) h220 rfl fun a221 h221 => ?_; clear h220
     refine pk0 (v := pt b 4) h221 rfl fun a222 h222 => ?_; clear h221
     refine pk (v := (ptT r)) h222 rfl (rn_load1 rfl rfl Try.isAgg176 (hB.cell rfl)) fun a223 h223 => ?_; clear h222
     refine pk0 (v := .string k) h223 rfl fun a224 h224 => ?_; clear h223
     refine pw h224 rfl (op_call (args := #[(ptT r), .string k]) (R := fun res xw => res = .tuple #[ptT (delT r k), .bool (hasT r k)] ∧ TreeAt xw (delT r k) ∧ But (fun q => q ∈ bk r) w xw) rfl rfl rfl (by kernel_rfl) (by kernel_rfl) (Try.call97 _ _) (ihr k w hr n4 a2 (by omega)) (by rintro e x ⟨rfl, h1, h3⟩; exact ⟨_, rfl, rfl, h1, h3⟩)) ?_; clear h224
     rintro _ w226 a225 ⟨rfl, hT227, hb228⟩ h225
     have av229 := del_avl r k a2; have mb230 := del_bk r k a2 n4; have sz231 := del_sz r k a2
     have hB232 := fbU_foot hB0 hb228 (fun i hi hS => by simp only [bk, List.mem_cons, List.mem_append]; exact .inr (.inr hS))
     have hz233 := hb228.size
     refine pk0 (v := .tuple #[(ptT (delT r k)), .bool (hasT r k)]) h225 rfl fun a234 h234 => ?_; clear h225
     refine pk0 (v := (ptT (delT r k))) h234 rfl fun a235 h235 => ?_; clear h234
     refine pk0 (v := .bool (hasT r k)) h235 rfl fun a236 h236 => ?_; clear h235
     refine pk0 (v := pt b 0) h236 rfl fun a237 h237 => ?_; clear h236
     refine pk0 (v := pt b 4) h237 rfl fun a238 h238 => ?_; clear h237
     have hk244 := Blk.butS hB hb228 (fun hq => absurd hq n2)
     refine pwD h238 rfl (op_store1 rfl rfl rfl (ptT_one _) Try.sizeOf176 hk244 rfl) ?_; clear h238
     rintro _ w240 a239 ⟨hk241, hz242, hg243⟩ h239
     have hk241' : Blk w240 b 180 #[.string k2, .slice v2.a v2.n v2.c, .int .i64 d2, (ptT l), (ptT (delT r k))] := hk241; clear hk241
     have hz245 := hg243.size
     refine pk0 (v := .bool (hasT r k)) h239 rfl fun a246 h246 => ?_; clear h239
     refine pl_nil ?_
     refine co_blockN ?_
     refine co_then ?_
     refine co_seq ?_
     refine co_reg ?_
     refine pk0 (v := pt b 0) h246 rfl fun a247 h247 => ?_; clear h246
     have hB250 := fbU_at hB232 hg243 (fun hlt => by rcases hSb with hq | hq; exact hq; omega)
     have hT251 := TreeAt.but hl hb228 (fun q hq => (n5 q hq))
     have hT252 := hT251.gr hg243 (fun q e => by cases e; exact n1)
     have hT253 := hT227.gr hg243 (fun q e => by cases e; exact (fun hq => n2 (mb230.1 _ hq)))
     refine pw h247 rfl (op_call (args := #[pt b 0]) (R := fun res xw => res = ptT (balT (Tm.nd b l k2 v2 d2 (delT r k))) ∧ TreeAt xw (balT (Tm.nd b l k2 v2 d2 (delT r k))) ∧ But (fun q => q ∈ bk (Tm.nd b l k2 v2 d2 (delT r k))) w240 xw) rfl rfl rfl (by kernel_rfl) (by kernel_rfl) (Try.call121 _ _) (balance_any b l k2 v2 d2 (delT r k) w240 ⟨hk241', hT252, hT253⟩ (nd_ap' n1 (fun hq => n2 (mb230.1 _ hq)) n3 mb230.2 (dis_symm (fun q hq => (dis_symm n5) q (mb230.1 q hq)))) a1 av229.1 (by omega) (by omega)) (by rintro e x ⟨rfl, h1, h2⟩; exact ⟨_, rfl, rfl, h1, h2⟩)) ?_; clear h247
     rintro _ w249 a248 ⟨rfl, hT254, hb255⟩ h248
     have hB256 := fbU_foot hB250 hb255 (fun i hi hS => by simp only [bk, List.mem_cons, List.mem_append] at hS ⊢; rcases hS with h | h | h; exact .inl h; exact .inr (.inl h); exact .inr (.inr (mb230.1 _ h)))
     have hz257 := hb255.size
     refine pk0 (v := .bool (hasT r k)) h248 rfl fun a258 h258 => ?_; clear h248
     refine pk0 (v := (ptT (balT (Tm.nd b l k2 v2 d2 (delT r k))))) h258 rfl fun a259 h259 => ?_; clear h258
     refine pk0 (v := .bool (hasT r k)) h259 rfl fun a260 h260 => ?_; clear h259
     refine pl_nil ?_
     refine co_then ?_
     refine wp_ret ?_
     refine co_ret2 h260 rfl rfl rfl ?_
     have q1 : klt k k2 = false := hc19; have q2 := klt_gt hc27
     exact ⟨by rw [delT_r q1 q2, hasT_r q1 q2], by rw [delT_r q1 q2]; exact hT254, hB256⟩
   ·
    rw [hc19] at h18
    refine co_true h18 rfl ?_
    refine co_reg ?_
    refine pk0 (v := pt b 0) h18 rfl fun a261 h261 => ?_; clear h18
    refine pk0 (v := pt b 0) h261 rfl fun a262 h262 => ?_; clear h261
    refine pk0 (v := pt b 0) h262 rfl fun a263 h263 => ?_; clear h262
    refine pk0 (v := pt b 3) h263 rfl fun a264 h264 => ?_; clear h263
    refine pk (v := (ptT l)) h264 rfl (rn_load1 rfl rfl Try.isAgg176 (hB.cell rfl)) fun a265 h265 => ?_; clear h264
    refine pk0 (v := .string k) h265 rfl fun a266 h266 => ?_; clear h265
    refine pw h266 rfl (op_call (args := #[(ptT l), .string k]) (R := fun res xw => res = .tuple #[ptT (delT l k), .bool (hasT l k)] ∧ TreeAt xw (delT l k) ∧ But (fun q => q ∈ bk l) w xw) rfl rfl rfl (by kernel_rfl) (by kernel_rfl) (Try.call97 _ _) (ihl k w hl n3 a1 (by omega)) (by rintro e x ⟨rfl, h1, h3⟩; exact ⟨_, rfl, rfl, h1, h3⟩)) ?_; clear h266
    rintro _ w268 a267 ⟨rfl, hT269, hb270⟩ h267
    have av271 := del_avl l k a1; have mb272 := del_bk l k a1 n3; have sz273 := del_sz l k a1
    have hB274 := fbU_foot hB0 hb270 (fun i hi hS => by simp only [bk, List.mem_cons, List.mem_append]; exact .inr (.inl hS))
    have hz275 := hb270.size
    refine pk0 (v := .tuple #[(ptT (delT l k)), .bool (hasT l k)]) h267 rfl fun a276 h276 => ?_; clear h267
    refine pk0 (v := (ptT (delT l k))) h276 rfl fun a277 h277 => ?_; clear h276
    refine pk0 (v := .bool (hasT l k)) h277 rfl fun a278 h278 => ?_; clear h277
    refine pk0 (v := pt b 0) h278 rfl fun a279 h279 => ?_; clear h278
    refine pk0 (v := pt b 3) h279 rfl fun a280 h280 => ?_; clear h279
    have hk286 := Blk.butS hB hb270 (fun hq => absurd hq n1)
    refine pwD h280 rfl (op_store1 rfl rfl rfl (ptT_one _) Try.sizeOf176 hk286 rfl) ?_; clear h280
    rintro _ w282 a281 ⟨hk283, hz284, hg285⟩ h281
    have hk283' : Blk w282 b 180 #[.string k2, .slice v2.a v2.n v2.c, .int .i64 d2, (ptT (delT l k)), (ptT r)] := hk283; clear hk283
    have hz287 := hg285.size
    refine pk0 (v := .bool (hasT l k)) h281 rfl fun a288 h288 => ?_; clear h281
    refine pl_nil ?_
    refine co_blockN ?_
    refine co_then ?_
    refine co_seq ?_
    refine co_reg ?_
    refine pk0 (v := pt b 0) h288 rfl fun a289 h289 => ?_; clear h288
    have hB292 := fbU_at hB274 hg285 (fun hlt => by rcases hSb with hq | hq; exact hq; omega)
    have hT293 := TreeAt.but hr hb270 (fun q hq => ((dis_symm n5) q hq))
    have hT294 := hT293.gr hg285 (fun q e => by cases e; exact n2)
    have hT295 := hT269.gr hg285 (fun q e => by cases e; exact (fun hq => n1 (mb272.1 _ hq)))
    refine pw h289 rfl (op_call (args := #[pt b 0]) (R := fun res xw => res = ptT (balT (Tm.nd b (delT l k) k2 v2 d2 r)) ∧ TreeAt xw (balT (Tm.nd b (delT l k) k2 v2 d2 r)) ∧ But (fun q => q ∈ bk (Tm.nd b (delT l k) k2 v2 d2 r)) w282 xw) rfl rfl rfl (by kernel_rfl) (by kernel_rfl) (Try.call121 _ _) (balance_any b (delT l k) k2 v2 d2 r w282 ⟨hk283', hT295, hT294⟩ (nd_ap' (fun hq => n1 (mb272.1 _ hq)) n2 mb272.2 n4 (fun q hq => n5 q (mb272.1 q hq))) av271.1 a2 (by omega) (by omega)) (by rintro e x ⟨rfl, h1, h2⟩; exact ⟨_, rfl, rfl, h1, h2⟩)) ?_; clear h289
    rintro _ w291 a290 ⟨rfl, hT296, hb297⟩ h290
    have hB298 := fbU_foot hB292 hb297 (fun i hi hS => by simp only [bk, List.mem_cons, List.mem_append] at hS ⊢; rcases hS with h | h | h; exact .inl h; exact .inr (.inl (mb272.1 _ h)); exact .inr (.inr h))
    have hz299 := hb297.size
    refine pk0 (v := .bool (hasT l k)) h290 rfl fun a300 h300 => ?_; clear h290
    refine pk0 (v := (ptT (balT (Tm.nd b (delT l k) k2 v2 d2 r)))) h300 rfl fun a301 h301 => ?_; clear h300
    refine pk0 (v := .bool (hasT l k)) h301 rfl fun a302 h302 => ?_; clear h301
    refine pl_nil ?_
    refine co_then ?_
    refine wp_ret ?_
    refine co_ret2 h302 rfl rfl rfl ?_
    have q1 : klt k k2 = true := hc19
    exact ⟨by rw [delT_l q1, hasT_l q1], by rw [delT_l q1]; exact hT296, hB298⟩
end Go.Proofs.Ytbjbcbbhmbpndaa

/- Package tree, of lists of cells: walk, for an iterator. Conditions: none. -/
namespace Go.Proofs.Ytbjbcbbhmbpndaa
open Go.RowKit Go.Shelf
attribute [local go_sem] Oper.semAt_some
set_option linter.unusedVariables false

/-- The keys of t that are not below F. -/
def wk (F : ByteArray) : Tm → List ByteArray
  | .nil => []
  | .nd _ l k _ _ r => if klt k F = true then wk F r else wk F l ++ k :: wk F r
theorem roundIn_n {m m' : Nat} {P : Program} {l : Nat} {f : FuncId} {tmps : Array Value} {asg bd : Code} {w : World} {R : Ending → World → Prop} (h : RoundIn Fence.wide m P l f tmps asg bd w R) : RoundIn Fence.wide m' P l f tmps asg bd w R :=
  ⟨trivial, fun c cs _ => h.2 c cs (room_wide _)⟩
theorem pre_app {A B C D : List ByteArray} (h : (A ++ (B ++ C)) <+: D) : (A ++ B) <+: D := by
  rw [← List.append_assoc] at h; exact (List.prefix_append _ _).trans h

set_option maxRecDepth 100000 in
set_option maxHeartbeats 2000000 in
theorem walk_in (lp n₀ : Nat) (F : ByteArray) (ks : List ByteArray) (J Jx : List ByteArray → World → Prop)
    (hY : ∀ pre x W, J pre W → (pre ++ [x]) <+: ks → YieldAt Fence.wide 1 Try.prog lp #[.string x] W fun e W' =>
      (e = .returned (.bool true) ∧ J (pre ++ [x]) W' ∧ Below n₀ W W') ∨ (e = .returned (.bool false) ∧ Jx (pre ++ [x]) W')) :
    ∀ (t : Tm) (pre : List ByteArray) (W : World), TreeAt W t → (∀ q ∈ bk t, q < n₀) → J pre W → (pre ++ wk F t) <+: ks →
    CallsIn Fence.wide 2 Try.prog 123 #[ptT t, .string F, .func (.yield lp) #[] #[]] W fun e W' =>
      (e = .returned (.bool true) ∧ J (pre ++ wk F t) W' ∧ Below n₀ W W') ∨ (e = .returned (.bool false) ∧ ∃ zs, zs ≠ [] ∧ zs <+: ks ∧ Jx zs W') := by
  intro t
  induction t with
  | nil =>
    intro pre W hT hq hJ hp
    refine callsIn_of_wp Try.func123 rfl trivial ?_ rfl
    simp only [ptT, Try.ntmps123, List.size_toArray, List.length_cons, List.length_nil, Nat.reduceAdd, Nat.reduceSub, Array.replicate_succ, Array.replicate_zero, List.push_toArray, List.append_toArray, List.nil_append, List.cons_append]
    gi_wp2
    go_ret
    exact .inl ⟨rfl, by simpa [wk] using hJ, Below.refl _ _⟩
  | nd b l k v d r ihl ihr =>
    intro pre W hT hq hJ hp
    obtain ⟨hB, hTl, hTr⟩ := hT
    have hql : ∀ q ∈ bk l, q < n₀ := fun q h => hq q (by simp [bk, h])
    have hqr : ∀ q ∈ bk r, q < n₀ := fun q h => hq q (by simp [bk, h])
    have hqb : b < n₀ := hq b (by simp [bk])
    have c0 : W.cell? ⟨b, 0, none⟩ = some (.string k) := hB.cell (k := 0) rfl
    have c3 : W.cell? ⟨b, 3, none⟩ = some (ptT l) := hB.cell (k := 3) rfl
    have c4 : W.cell? ⟨b, 4, none⟩ = some (ptT r) := hB.cell (k := 4) rfl
    have HB := Lib.hid hB; have HL := Lib.hid hTl; have HR := Lib.hid hTr; have HQL := Lib.hid hql; have HQR := Lib.hid hqr; have HY := Lib.hid hY; have HP := Lib.hid hp; have IL := Lib.hid ihl; have IR := Lib.hid ihr
    clear hB hTl hTr hql hqr hq hY hp ihl ihr
    have hkeep : Hid (∀ X : World, Below n₀ W X → TreeAt X r ∧ Blk X b 180 (ndV k v d l r)) := Lib.hid fun X hX =>
      ⟨HR.out.keep fun q hq => hX.block q (HQR.out q hq), by have h := HB.out; unfold Blk at h ⊢; rw [hX.block b hqb]; exact h⟩
    refine callsIn_of_wp Try.func123 rfl trivial ?_ rfl
    simp only [ptT, pt, Try.ntmps123, List.size_toArray, List.length_cons, List.length_nil, Nat.reduceAdd, Nat.reduceSub, Array.replicate_succ, Array.replicate_zero, List.push_toArray, List.append_toArray, List.nil_append, List.cons_append]
    by_cases hlt : klt k F = true
    · have hlt' : Op.bytesLess k.toList F.toList = true := hlt
      have HP2 : Hid (pre ++ wk F r <+: ks) := Lib.hid (by have h := HP.out; rw [wk, if_pos hlt] at h; exact h)
      gi_wp2
      refine ⟨trivial, ?_⟩
      refine (callsIn_wide.2 (callsIn_wide.1 (IR.out pre W HR.out HQR.out hJ HP2.out))).mono ?_
      rintro e W1 (⟨rfl, hJ1, hb1⟩ | ⟨rfl, hz⟩)
      · have HB1 := Lib.hid hb1; have HJ1 := Lib.hid hJ1; clear hb1 hJ1
        gi_wp2
        go_ret
        exact .inl ⟨rfl, by rw [wk, if_pos hlt]; exact HJ1.out, HB1.out⟩
      · have HZ := Lib.hid hz; clear hz
        gi_wp2
        go_ret
        exact .inr ⟨rfl, HZ.out⟩
    · have hlt' : Op.bytesLess k.toList F.toList = false := by simpa [klt] using hlt
      have hwk : Hid (wk F (.nd b l k v d r) = wk F l ++ k :: wk F r) := Lib.hid (by rw [wk, if_neg hlt])
      have HP1 : Hid (pre ++ wk F l <+: ks) := Lib.hid (by have h := HP.out; rw [hwk.out] at h; exact pre_app h)
      have HP3 : Hid ((pre ++ wk F l ++ [k]) ++ wk F r <+: ks) := Lib.hid (by have h := HP.out; rw [hwk.out] at h; simpa using h)
      have HP2 : Hid (pre ++ wk F l ++ [k] <+: ks) := Lib.hid ((List.prefix_append _ _).trans HP3.out)
      gi_wp2
      refine ⟨trivial, ?_⟩
      refine (callsIn_wide.2 (callsIn_wide.1 (IL.out pre W HL.out HQL.out hJ HP1.out))).mono ?_
      rintro e W1 (⟨rfl, hJ1, hb1⟩ | ⟨rfl, hz⟩)
      · have hk1 := (hkeep.out W1 hb1).2
        have d0 : W1.cell? ⟨b, 0, none⟩ = some (.string k) := hk1.cell (k := 0) rfl
        obtain ⟨fn, tmps, asg, body, hy, hR⟩ := HY.out (pre ++ wk F l) k W1 hJ1 HP2.out
        have HB1 := Lib.hid hb1; clear hb1 hk1
        gi_wp2
        refine (roundIn_n hR).mono ?_
        rintro e W2 (⟨rfl, hJ2, hb2⟩ | ⟨rfl, hx⟩)
        · have hb2 : Below n₀ W W2 := HB1.out.trans hb2
          obtain ⟨hr2, hk2⟩ := hkeep.out W2 hb2
          have d4 : W2.cell? ⟨b, 4, none⟩ = some (ptT r) := hk2.cell (k := 4) rfl
          have HB2 := Lib.hid hb2; have HR2 := Lib.hid hr2; clear hb2 hk2 hr2 hy
          gi_wp2
          refine ⟨trivial, ?_⟩
          refine (callsIn_wide.2 (callsIn_wide.1 (IR.out (pre ++ wk F l ++ [k]) W2 HR2.out HQR.out hJ2 HP3.out))).mono ?_
          rintro e W3 (⟨rfl, hJ3, hb3⟩ | ⟨rfl, hz⟩)
          · have HB3 := Lib.hid (HB2.out.trans hb3); have HJ3 := Lib.hid hJ3; clear hb3 hJ3
            gi_wp2
            go_ret
            exact .inl ⟨rfl, by rw [hwk.out]; simpa using HJ3.out, HB3.out⟩
          · have HZ := Lib.hid hz; clear hz
            gi_wp2
            go_ret
            exact .inr ⟨rfl, HZ.out⟩
        · have HZ : Hid (∃ zs, zs ≠ [] ∧ zs <+: ks ∧ Jx zs W2) := Lib.hid ⟨_, by simp, HP2.out, hx⟩
          clear hx hy
          gi_wp2
          refine ⟨trivial, ?_⟩
          gi_wp2
          go_ret
          exact .inr ⟨rfl, HZ.out⟩
      · have HZ := Lib.hid hz; clear hz
        gi_wp2
        refine ⟨by first | trivial | exact fun _ h => (by cases h), ?_⟩
        gi_wp2
        refine ⟨by first | trivial | exact fun _ h => (by cases h), ?_⟩
        gi_wp2
        go_ret
        exact .inr ⟨rfl, HZ.out⟩

set_option maxHeartbeats 1000000 in
theorem keysFrom_any (tb : Nat) (F : ByteArray) (w : World) :
    CallsIn Fence.wide 2 Try.prog 95 #[pt tb 0, .string F] w fun e w' => e = .returned (.func (.func 122) #[] #[.pointer (some ⟨w.heap.size, 0, none⟩), .pointer (some ⟨w.heap.size + 1, 0, none⟩)]) ∧
      w' = (w.alloc (.cells #[pt tb 0] 117)).alloc (.cells #[.string F] 9) := by
  refine callsIn_of_wp Try.func95 rfl trivial ?_ rfl
  simp only [pt, Try.ntmps95, List.size_toArray, List.length_cons, List.length_nil, Nat.reduceAdd, Nat.reduceSub, Array.replicate_succ, Array.replicate_zero, List.push_toArray, List.append_toArray, List.nil_append, List.cons_append]
  gi_wp2
  go_ret
  exact ⟨rfl, rfl⟩

/-- Only draws lie between. -/
inductive Dr (W : World) : World → Prop
  | o : Dr W W
  | s {X : World} : Dr W X → Dr W X.drew
theorem Dr.tree {W X : World} (h : Dr W X) {t : Tm} (ht : TreeAt W t) : TreeAt X t := by
  induction h with
  | o => exact ht
  | s _ ih => exact ih.keep fun q hq => rfl
theorem Dr.ind {W X : World} (h : Dr W X) {P : World → Prop} (h0 : P W) (hd : ∀ X, P X → P X.drew) : P X := by
  induction h with
  | o => exact h0
  | s _ ih => exact hd _ ih
set_option maxRecDepth 100000 in
set_option maxHeartbeats 2000000 in
theorem titer_in (lp n₀ Bn tb : Nat) (F : ByteArray) (t : Tm) (u s : Value) (J Jx : List ByteArray → World → Prop)
    (hY : ∀ pre x W, J pre W → (pre ++ [x]) <+: wk F t → YieldAt Fence.wide 1 Try.prog lp #[.string x] W fun e W' =>
      (e = .returned (.bool true) ∧ J (pre ++ [x]) W' ∧ Below n₀ W W') ∨ (e = .returned (.bool false) ∧ Jx (pre ++ [x]) W'))
    (hJd : ∀ pre X, J pre X → J pre X.drew) (W : World) (hT : TreeAt W t) (hq : ∀ q ∈ bk t, q < n₀) (hJ : J [] W) (hb : Blk W tb 178 #[u, ptT t, s]) (hc : W.cell? ⟨Bn, 0, none⟩ = some (pt tb 0)) (hc1 : W.cell? ⟨Bn + 1, 0, none⟩ = some (.string F)) :
    CallsIn Fence.wide 2 Try.prog 122 #[.func (.yield lp) #[] #[], .pointer (some ⟨Bn, 0, none⟩), .pointer (some ⟨Bn + 1, 0, none⟩)] W fun e W' =>
      (∃ v, e = .returned v) ∧ (J (wk F t) W' ∨ (∃ zs, zs ≠ [] ∧ zs <+: wk F t ∧ Jx zs W')) := by
  have d1 : W.cell? ⟨tb, 1, none⟩ = some (ptT t) := hb.cell (k := 1) rfl
  have HT := Lib.hid hT; have HQ := Lib.hid hq; have HY := Lib.hid hY; have HD := Lib.hid (hJd [])
  clear hT hq hY hb hJd
  refine callsIn_of_wp Try.func122 rfl trivial ?_ rfl
  simp only [pt] at hc
  simp only [Try.ntmps122, List.size_toArray, List.length_cons, List.length_nil, Nat.reduceAdd, Nat.reduceSub, Array.replicate_succ, Array.replicate_zero, List.push_toArray, List.append_toArray, List.nil_append, List.cons_append]
  have HW : Hid (∀ X, Dr W X → Calls Try.prog 123 #[ptT t, .string F, .func (.yield lp) #[] #[]] X fun e W' => ∃ z, e = .returned (.bool z) ∧ (J (wk F t) W' ∨ (∃ zs, zs ≠ [] ∧ zs <+: wk F t ∧ Jx zs W'))) := Lib.hid fun X hX => by
    refine ((callsIn_wide (n := 2)).1 (walk_in lp n₀ F (wk F t) J Jx HY.out t [] X (hX.tree HT.out) HQ.out (hX.ind hJ HD.out) (by simp))).mono ?_
    rintro e W1 (⟨rfl, h, _⟩ | ⟨rfl, h⟩)
    · exact ⟨_, rfl, .inl (by simpa using h)⟩
    · exact ⟨_, rfl, .inr h⟩
  gi_wp2
  refine wpIn_wide.2 ?_
  go_region_law (first | (go_simp; go_at_call 123; refine Calls.mono (HW.out _ (by repeat (first | exact Dr.o | refine Dr.s ?_))) ?_; rintro e w2 ⟨z, rfl, hr⟩; have HR := Lib.hid hr; clear hr))
  all_goals go_end0
  all_goals exact ⟨⟨_, rfl⟩, HR.out⟩
end Go.Proofs.Ytbjbcbbhmbpndaa

/- Package tree, of lists of cells: what a tree holds, as a rising list. Conditions: none. -/
namespace Go.Proofs.Ytbjbcbbhmbpndaa
open Go.RowKit Go.PlainAid
set_option linter.unusedVariables false

theorem tbl_irr : ∀ x : List UInt8, Op.bytesLess x x = false
  | [] => rfl
  | a :: x => by
    have ih := tbl_irr x
    show (decide (a < a) || (a == a && Op.bytesLess x x)) = false
    have h2 : ¬ a < a := fun q => by have : a.toNat < a.toNat := q; omega
    simp [h2, ih]
theorem tbl_cons {a b : UInt8} {x y : List UInt8} : Op.bytesLess (a :: x) (b :: y) = true ↔ a < b ∨ (a = b ∧ Op.bytesLess x y = true) := by
  show (decide (a < b) || (a == b && Op.bytesLess x y)) = true ↔ _
  simp
theorem tbl_trans : ∀ x y z : List UInt8, Op.bytesLess x y = true → Op.bytesLess y z = true → Op.bytesLess x z = true
  | x, [], z, h, _ => by cases x <;> cases h
  | x, _ :: _, [], _, h => by cases h
  | [], _ :: _, _ :: _, _, _ => rfl
  | a :: x, b :: y, c :: z, h1, h2 => by
    rw [tbl_cons] at h1 h2 ⊢
    rcases h1 with h1 | ⟨rfl, h1⟩
    · rcases h2 with h2 | ⟨rfl, h2⟩
      · exact .inl (by have p : a.toNat < b.toNat := h1; have q : b.toNat < c.toNat := h2; show a.toNat < c.toNat; omega)
      · exact .inl h1
    · rcases h2 with h2 | ⟨rfl, h2⟩
      · exact .inl h2
      · exact .inr ⟨rfl, tbl_trans x y z h1 h2⟩
theorem klt_irr (k : ByteArray) : klt k k = false := tbl_irr _
theorem klt_tr {a b c : ByteArray} (h : klt a b = true) (h2 : klt b c = true) : klt a c = true := tbl_trans _ _ _ h h2
theorem klt_as {a b : ByteArray} (h : klt a b = true) : klt b a = false := by
  cases hb : klt b a with
  | false => rfl
  | true => have := klt_tr h hb; rw [klt_irr] at this; cases this
theorem klt_eq {a b : ByteArray} (h : klt a b = false) (h2 : klt b a = false) : a = b := by
  have h3 := tbl_flip a.toList b.toList
  have e1 : Op.bytesLess a.toList b.toList = false := h
  have e2 : Op.bytesLess b.toList a.toList = false := h2
  rw [e1, e2] at h3
  have h4 : a.toList = b.toList := by simpa using h3
  rw [Go.ByteArray.toList_eq, Go.ByteArray.toList_eq] at h4
  exact Go.WideShapes.bytes_inj h4
abbrev Kv := ByteArray × SlT
def Srt (L : List Kv) : Prop := L.Pairwise (fun a b => klt a.1 b.1 = true)
def insL : List Kv → ByteArray → SlT → List Kv
  | [], k, v => [(k, v)]
  | a :: r, k, v => if klt k a.1 = true then (k, v) :: a :: r else if klt a.1 k = true then a :: insL r k v else (a.1, v) :: r
def delL : List Kv → ByteArray → List Kv
  | [], _ => []
  | a :: r, k => if klt k a.1 = true then a :: r else if klt a.1 k = true then a :: delL r k else r
def hasL : List Kv → ByteArray → Bool
  | [], _ => false
  | a :: r, k => if klt k a.1 = true then false else if klt a.1 k = true then hasL r k else true
def getL : List Kv → ByteArray → SlT
  | [], _ => ⟨none, 0, 0⟩
  | a :: r, k => if klt k a.1 = true then ⟨none, 0, 0⟩ else if klt a.1 k = true then getL r k else a.2
section
variable {k k' : ByteArray} {v v' : SlT} {A B : List Kv} {a : Kv}
theorem insL_l (h : klt k a.1 = true) : insL (A ++ a :: B) k v = insL A k v ++ a :: B := by
  induction A with
  | nil => simp [insL, h]
  | cons c r ih => simp only [List.cons_append, insL, ih]; split <;> (try split) <;> simp
theorem insL_r (h : ∀ c ∈ A, klt c.1 k = true) : insL (A ++ B) k v = A ++ insL B k v := by
  induction A with
  | nil => rfl
  | cons c r ih =>
    have hc := h c (by simp)
    simp only [List.cons_append, insL, klt_as hc, hc, if_true, Bool.false_eq_true, if_false, ih (fun d hd => h d (by simp [hd]))]
theorem delL_l (h : klt k a.1 = true) : delL (A ++ a :: B) k = delL A k ++ a :: B := by
  induction A with
  | nil => simp [delL, h]
  | cons c r ih => simp only [List.cons_append, delL, ih]; split <;> (try split) <;> simp
theorem delL_r (h : ∀ c ∈ A, klt c.1 k = true) : delL (A ++ B) k = A ++ delL B k := by
  induction A with
  | nil => rfl
  | cons c r ih =>
    have hc := h c (by simp)
    simp only [List.cons_append, delL, klt_as hc, hc, if_true, Bool.false_eq_true, if_false, ih (fun d hd => h d (by simp [hd]))]
theorem hasL_l (h : klt k a.1 = true) : hasL (A ++ a :: B) k = hasL A k := by
  induction A with
  | nil => simp [hasL, h]
  | cons c r ih => simp only [List.cons_append, hasL, ih]
theorem hasL_r (h : ∀ c ∈ A, klt c.1 k = true) : hasL (A ++ B) k = hasL B k := by
  induction A with
  | nil => rfl
  | cons c r ih =>
    have hc := h c (by simp)
    simp only [List.cons_append, hasL, klt_as hc, hc, if_true, Bool.false_eq_true, if_false, ih (fun d hd => h d (by simp [hd]))]
theorem getL_l (h : klt k a.1 = true) : getL (A ++ a :: B) k = getL A k := by
  induction A with
  | nil => simp [getL, h]
  | cons c r ih => simp only [List.cons_append, getL, ih]
theorem getL_r (h : ∀ c ∈ A, klt c.1 k = true) : getL (A ++ B) k = getL B k := by
  induction A with
  | nil => rfl
  | cons c r ih =>
    have hc := h c (by simp)
    simp only [List.cons_append, getL, klt_as hc, hc, if_true, Bool.false_eq_true, if_false, ih (fun d hd => h d (by simp [hd]))]
theorem delL_len (L : List Kv) : (delL L k).length + (if hasL L k = true then 1 else 0) = L.length := by
  induction L with
  | nil => simp [delL, hasL]
  | cons c r ih => simp only [delL, hasL]; split <;> (try split) <;> simp_all <;> omega
theorem insL_mem {L : List Kv} {c : Kv} (h : c ∈ insL L k v) : c.1 = k ∨ ∃ d ∈ L, d.1 = c.1 := by
  induction L with
  | nil => simp [insL] at h; exact .inl (by rw [h])
  | cons a r ih =>
    unfold insL at h
    split at h
    · rcases List.mem_cons.1 h with rfl | h
      · exact .inl rfl
      · exact .inr ⟨c, h, rfl⟩
    · split at h
      · rcases List.mem_cons.1 h with rfl | h
        · exact .inr ⟨c, by simp, rfl⟩
        · rcases ih h with h | ⟨d, hd, e⟩
          · exact .inl h
          · exact .inr ⟨d, by simp [hd], e⟩
      · rcases List.mem_cons.1 h with rfl | h
        · exact .inr ⟨a, by simp, rfl⟩
        · exact .inr ⟨c, by simp [h], rfl⟩
theorem insL_srt {L : List Kv} (h : Srt L) : Srt (insL L k v) := by
  induction L with
  | nil => simp [insL, Srt]
  | cons a r ih =>
    obtain ⟨h1, h2⟩ := List.pairwise_cons.1 h
    unfold insL
    split
    · rename_i q
      exact List.pairwise_cons.2 ⟨fun c hc => by rcases List.mem_cons.1 hc with rfl | hc; exact q; exact klt_tr q (h1 c hc), h⟩
    · split
      · rename_i q
        refine List.pairwise_cons.2 ⟨fun c hc => ?_, ih h2⟩
        rcases insL_mem hc with e | ⟨d, hd, e⟩
        · rw [e]; exact q
        · rw [← e]; exact h1 d hd
      · exact List.pairwise_cons.2 ⟨fun c hc => h1 c hc, h2⟩
theorem delL_sub (L : List Kv) : (delL L k).Sublist L := by
  induction L with
  | nil => exact List.Sublist.slnil
  | cons a r ih => unfold delL; split; exact List.Sublist.refl _; split; exact ih.cons_cons _; exact List.sublist_cons_self _ _
theorem delL_srt {L : List Kv} (h : Srt L) : Srt (delL L k) := h.sublist (delL_sub L)
end
theorem Srt.parts {A B : List Kv} {a : Kv} (h : Srt (A ++ a :: B)) : Srt A ∧ Srt B ∧ (∀ c ∈ A, klt c.1 a.1 = true) ∧ ∀ c ∈ B, klt a.1 c.1 = true := by
  obtain ⟨h1, h2, h3⟩ := List.pairwise_append.1 h
  obtain ⟨h4, h5⟩ := List.pairwise_cons.1 h2
  exact ⟨h1, h5, fun c hc => h3 c hc a (by simp), h4⟩
theorem has_il : ∀ (t : Tm) (k : ByteArray), Srt (il t) → hasT t k = hasL (il t) k
  | .nil, _, _ => rfl
  | .nd b l k' v' d r, k, h => by
    obtain ⟨hl, hr, h1, h2⟩ := Srt.parts h
    show _ = hasL (il l ++ (k', v') :: il r) k
    by_cases q1 : klt k k' = true
    · rw [hasT_l q1, hasL_l q1, has_il l k hl]
    · have q1' : klt k k' = false := by simpa using q1
      by_cases q2 : klt k' k = true
      · rw [hasT_r q1' q2, hasL_r (fun c hc => klt_tr (h1 c hc) q2), has_il r k hr]
        simp [hasL, q1', q2]
      · have q2' : klt k' k = false := by simpa using q2
        have e := klt_eq q1' q2'; subst e
        rw [hasT_e q1' q2', hasL_r h1]
        simp [hasL, klt_irr]
theorem put_il (k : ByteArray) (v : SlT) (N : Nat) : ∀ t : Tm, Avl t → Srt (il t) → il (putT t k v N) = insL (il t) k v
  | .nil, _, _ => rfl
  | .nd b l k' v' d r, ha, h => by
    obtain ⟨a1, a2, a3, a4, a5⟩ := ha
    obtain ⟨hl, hr, h1, h2⟩ := Srt.parts h
    show _ = insL (il l ++ (k', v') :: il r) k v
    by_cases q1 : klt k k' = true
    · rw [putT_l q1, balT_il (put_avl k v N l a1).1 a2, insL_l (a := (k', v')) q1, put_il k v N l a1 hl]
    · have q1' : klt k k' = false := by simpa using q1
      by_cases q2 : klt k' k = true
      · rw [putT_r q1' q2, balT_il a1 (put_avl k v N r a2).1, insL_r (fun c hc => klt_tr (h1 c hc) q2), put_il k v N r a2 hr]
        simp [insL, q1', q2]
      · have q2' : klt k' k = false := by simpa using q2
        have e := klt_eq q1' q2'; subst e
        rw [putT_e q1' q2', insL_r h1]
        simp [insL, klt_irr, il]
theorem lm_il : ∀ t : Tm, isNil t = false → ∃ tl, il t = lmT t :: tl
  | .nil, h => by cases h
  | .nd b l k v d r, _ => by
    cases hl : isNil l with
    | true => rw [lmT_nil hl]; have := isNil_t hl; subst this; exact ⟨il r, rfl⟩
    | false =>
      obtain ⟨tl, e⟩ := lm_il l hl
      rw [lmT_nd hl]
      exact ⟨tl ++ (k, v) :: il r, by show il l ++ _ = _; rw [e]; rfl⟩
theorem del_il : ∀ (t : Tm) (k : ByteArray), Avl t → Srt (il t) → il (delT t k) = delL (il t) k
  | .nil, _, _, _ => rfl
  | .nd b l k' v' d r, k, ha, h => by
    obtain ⟨a1, a2, a3, a4, a5⟩ := ha
    obtain ⟨hl, hr, h1, h2⟩ := Srt.parts h
    show _ = delL (il l ++ (k', v') :: il r) k
    by_cases q1 : klt k k' = true
    · rw [delT_l q1, balT_il (del_avl l k a1).1 a2, delL_l (a := (k', v')) q1, del_il l k a1 hl]
    · have q1' : klt k k' = false := by simpa using q1
      by_cases q2 : klt k' k = true
      · rw [delT_r q1' q2, balT_il a1 (del_avl r k a2).1, delL_r (fun c hc => klt_tr (h1 c hc) q2), del_il r k a2 hr]
        simp [delL, q1', q2]
      · have q2' : klt k' k = false := by simpa using q2
        have e := klt_eq q1' q2'; subst e
        rw [delL_r h1]
        have e2 : delL ((k, v') :: il r) k = il r := by simp [delL, klt_irr]
        rw [e2]
        cases n1 : isNil l with
        | true => rw [delT_e1 q1' q2' n1, isNil_t n1]; rfl
        | false =>
          cases n2 : isNil r with
          | true => rw [delT_e2 q1' q2' n1 n2, isNil_t n2]; simp [il]
          | false =>
            obtain ⟨tl, e3⟩ := lm_il r n2
            rw [delT_e3 q1' q2' n1 n2, balT_il a1 (del_avl r _ a2).1, del_il r _ a2 hr, e3]
            simp [delL, klt_irr]
theorem del_sz' {t : Tm} {k : ByteArray} (ha : Avl t) (h : Srt (il t)) : sz (delT t k) + (if hasT t k = true then 1 else 0) = sz t := by
  rw [← il_len, ← il_len, del_il t k ha h, has_il t k h]; exact delL_len _
theorem put_srt {t : Tm} {k : ByteArray} {v : SlT} {N : Nat} (ha : Avl t) (h : Srt (il t)) : Srt (il (putT t k v N)) := by rw [put_il k v N t ha h]; exact insL_srt h
theorem del_srt {t : Tm} {k : ByteArray} (ha : Avl t) (h : Srt (il t)) : Srt (il (delT t k)) := by rw [del_il t k ha h]; exact delL_srt h
/-- The walk tells the keys from F on. -/
def wkL (F : ByteArray) (L : List Kv) : List ByteArray := (L.filter (fun a => !klt a.1 F)).map (·.1)
end Go.Proofs.Ytbjbcbbhmbpndaa

/- Package tree, of lists of cells: a tree that somebody made, as an object: New, zero, Len, Depth, Put, Del. Conditions: at most 80000 keys. -/
namespace Go.Proofs.Ytbjbcbbhmbpndaa
open Go.RowKit Go.PlainAid Go.Shelf
set_option linter.unusedVariables false

/-- A tree that somebody made: it holds L, and tells the depth d; S holds its blocks. -/
def TrO (S : Nat → Prop) (w : World) (tb : Nat) (L : List Kv) (d : Int) : Prop := ∃ t : Tm, Blk w tb 178 #[.bool true, ptT t, .int .i64 (sz t)] ∧ TreeAt w t ∧ tb ∉ bk t ∧ (bk t).Nodup ∧ Avl t ∧ Srt (il t) ∧ il t = L ∧ dp t = d ∧ (∀ q, S q ↔ q = tb ∨ q ∈ bk t)
section
variable {S S' D : Nat → Prop} {w x : World} {tb N : Nat} {L : List Kv} {d : Int}
theorem TrO.ofS (h : TrO S w tb L d) : ∀ q, S q → q < w.heap.size := fun q hq => by
  obtain ⟨t, h1, h2, _, _, _, _, _, _, h9⟩ := h
  rcases (h9 q).1 hq with rfl | h
  · exact h1.lt
  · exact h2.lt q h
theorem TrO.keep (h : TrO S w tb L d) (hk : ∀ q, S q → x.heap[q]? = w.heap[q]?) : TrO S x tb L d := by
  obtain ⟨t, h1, h2, h3, h4, h5, h6, h7, h8, h9⟩ := h
  refine ⟨t, ?_, h2.keep fun q hq => hk q ((h9 q).2 (.inr hq)), h3, h4, h5, h6, h7, h8, h9⟩
  unfold Blk at h1 ⊢
  rw [hk tb ((h9 tb).2 (.inl rfl))]; exact h1
theorem TrO.gr {row : Option Nat} (h : TrO S w tb L d) (hg : w.grownBy x row) (hr : ∀ k, row = some k → ¬ S k) : TrO S x tb L d :=
  h.keep fun q hq => hg.block q (h.ofS q hq) (fun e => hr q e.symm hq)
theorem TrO.but (h : TrO S w tb L d) (hb : But D w x) (ha : ∀ q, D q → S q → False) : TrO S x tb L d :=
  h.keep fun q hq => hb.block q (h.ofS q hq) (fun hd => ha q hd hq)
theorem TrO.below {n0 : Nat} (h : TrO S w tb L d) (hb : Below n0 w x) (hn : ∀ q, S q → q < n0) : TrO S x tb L d := h.keep fun q hq => hb.block q (hn q hq)
theorem TrO.srt (h : TrO S w tb L d) : Srt L := by obtain ⟨t, h1, h2, h3, h4, h5, h6, h7, h8, h9⟩ := h; rw [← h7]; exact h6
theorem blk_set {T : TypeId} {cs : Array Value} (h : Blk w N T cs) (i : Nat) (hi : i < cs.size) (v : Value) : Blk (w.setCell ⟨N, i, none⟩ v) N T (cs.set i v) := by
  have hl := h.lt
  unfold Blk at h ⊢
  unfold World.setCell
  simp [Array.getElem?_modify, h, Array.setIfInBounds, hi]
end
theorem But.setB {S : Nat → Prop} {w x : World} {b i : Nat} (h : But S w x) (hb : S b) (v : Value) : But S w (x.setCell ⟨b, i, none⟩ v) := h.setCell (p := ⟨b, i, none⟩) (fun _ => hb) v
theorem TreeAt.set {w : World} {t : Tm} {b i : Nat} {v : Value} (h : TreeAt w t) (hb : b ∉ bk t) : TreeAt (w.setCell ⟨b, i, none⟩ v) t :=
  h.keep fun q hq => Below.heap_setCell _ _ _ _ (fun e => hb (by have e' : q = b := e; rw [← e']; exact hq))
theorem ptT_ptr (t : Tm) : ∃ q, ptT t = .pointer q := by cases t with | nil => exact ⟨_, rfl⟩ | nd b l k v d r => exact ⟨_, rfl⟩
set_option maxRecDepth 100000
set_option maxHeartbeats 2000000
theorem zero_made (tb : Nat) (p q : Value) (w : World) (h : Blk w tb 178 #[.bool true, p, q]) : Calls Try.prog 92 #[pt tb 0] w fun e w' => e = .returned (.bool false) ∧ w = w' := by
  have c0 : w.cell? ⟨tb, 0, none⟩ = some (.bool true) := h.cell (k := 0) rfl
  go_enter Try.func92, Try.ntmps92
  go_wp2
  go_ret
  exact ⟨rfl, rfl⟩
theorem tput_any (S : Nat → Prop) (w : World) (tb : Nat) (L : List Kv) (d : Int) (k : ByteArray) (v : SlT) (h : TrO S w tb L d) (hL : L.length ≤ 80000) :
    Calls Try.prog 63 #[pt tb 0, .string k, .slice v.a v.n v.c] w fun e w' => ∃ (d' : Int) (S' : Nat → Prop), e = .returned (.bool (hasL L k)) ∧ TrO S' w' tb (insL L k v) d' ∧ Grew S S' w w' := by
  obtain ⟨t, h1, h2, h3, h4, h5, h6, rfl, h8, h9⟩ := h
  rw [il_len] at hL
  have c1 : w.cell? ⟨tb, 1, none⟩ = some (ptT t) := h1.cell (k := 1) rfl
  have H1 := Lib.hid h1; have H2 := Lib.hid h2; have H3 := Lib.hid h3; have H4 := Lib.hid h4; have H5 := Lib.hid h5; have H6 := Lib.hid h6; have H8 := Lib.hid h8; have H9 := Lib.hid h9; clear h1 h2 h3 h4 h5 h6 h8 h9
  go_enter Try.func63, Try.ntmps63
  go_wp2_with fail
  refine (zero_made tb _ _ _ H1.out).mono ?_
  rintro e w1 ⟨rfl, rfl⟩
  go_wp2_with fail
  refine (put_any t k v _ H2.out H4.out H5.out (by omega)).mono ?_
  rintro e w1 ⟨N, rfl, hT, hN, hb⟩
  have k1 : Blk w1 tb 178 #[.bool true, ptT t, .int .i64 (sz t)] := Blk.butS H1.out hb H3.out
  have hlt := H1.out.lt
  have hnd : Hid (tb ∉ bk (putT t k v N)) := Lib.hid fun hq => by rcases put_mem H5.out hq with h | h; omega; exact H3.out h
  obtain ⟨pq, hpq⟩ := ptT_ptr (putT t k v N)
  have HPQ := Lib.hid hpq
  have k2 := blk_set k1 1 (by simp) (.pointer pq)
  have k3 := blk_set k2 2 (by simp) (.int .i64 ((sz t : Int) + 1))
  have d1 : w1.cell? ⟨tb, 1, none⟩ = some (ptT t) := k1.cell (k := 1) rfl
  have d1f := k1.frozen 1
  have d2 : (w1.setCell ⟨tb, 1, none⟩ (.pointer pq)).cell? ⟨tb, 2, none⟩ = some (.int .i64 (sz t)) := k2.cell (k := 2) rfl
  have d2f := k2.frozen 2
  have hsz := put_sz k v N t H5.out
  have K2 := Lib.hid k2; have K3 := Lib.hid k3; have HT := Lib.hid hT; have HB := Lib.hid hb; have HN := Lib.hid hN; have HS := Lib.hid hsz
  clear k1 k2 k3 hT hb hN hsz hlt
  have hfin : Hid (∀ (x : World) (s : Value), Blk x tb 178 #[.bool true, ptT (putT t k v N), .int .i64 (sz (putT t k v N))] → TreeAt x (putT t k v N) → But (fun q => q = tb ∨ q ∈ bk t) w x → ∃ (d' : Int) (S' : Nat → Prop), TrO S' x tb (insL (il t) k v) d' ∧ Grew S S' w x) := Lib.hid fun x s hx hy hz =>
    ⟨_, fun q => q = tb ∨ q ∈ bk (putT t k v N), ⟨_, hx, hy, hnd.out, put_nd H5.out H4.out (fun hq => by have := TreeAt.lt H2.out _ hq; have := HN.out; omega), (put_avl k v N t H5.out).1, put_srt H5.out H6.out, put_il k v N t H5.out H6.out, rfl, fun q => Iff.rfl⟩,
      fun q hq => by
        rcases hq with rfl | hq
        · exact .inl ((H9.out _).2 (.inl rfl))
        · rcases put_mem H5.out hq with rfl | h
          · exact .inr HN.out
          · exact .inl ((H9.out _).2 (.inr h)),
      hz.mono fun q _ hq => (H9.out q).2 hq⟩
  have HB2 : Hid (But (fun q => q = tb ∨ q ∈ bk t) w w1) := Lib.hid (HB.out.mono fun q _ hq => .inr hq)
  rw [hpq]; clear hpq
  cases hh : hasT t k with
  | true =>
    go_wp2
    go_ret
    have hs : sz (putT t k v N) = sz t := by have := HS.out; rw [hh] at this; simpa using this
    obtain ⟨d', S', q1, q2⟩ := hfin.out _ (.bool true) (by have := K2.out; rw [hs, HPQ.out]; exact this) (HT.out.set hnd.out) (HB2.out.setB (.inl rfl) _)
    exact ⟨d', S', by rw [← has_il t k H6.out, hh]; rfl, q1, q2⟩
  | false =>
    go_wp2
    go_ret
    have hs : ((sz (putT t k v N) : Nat) : Int) = (sz t : Int) + 1 := by have := HS.out; rw [hh] at this; simp at this; omega
    obtain ⟨d', S', q1, q2⟩ := hfin.out _ (.bool true) (by have := K3.out; rw [hs, HPQ.out]; exact this) ((HT.out.set hnd.out).set hnd.out) ((HB2.out.setB (.inl rfl) _).setB (.inl rfl) _)
    exact ⟨d', S', by rw [← has_il t k H6.out, hh]; rfl, q1, q2⟩
theorem tdel_any (S : Nat → Prop) (w : World) (tb : Nat) (L : List Kv) (d : Int) (k : ByteArray) (h : TrO S w tb L d) (hL : L.length ≤ 80000) :
    Calls Try.prog 66 #[pt tb 0, .string k] w fun e w' => ∃ (d' : Int) (S' : Nat → Prop), e = .returned (.bool (hasL L k)) ∧ TrO S' w' tb (delL L k) d' ∧ Grew S S' w w' := by
  obtain ⟨t, h1, h2, h3, h4, h5, h6, rfl, h8, h9⟩ := h
  rw [il_len] at hL
  have c1 : w.cell? ⟨tb, 1, none⟩ = some (ptT t) := h1.cell (k := 1) rfl
  have H1 := Lib.hid h1; have H2 := Lib.hid h2; have H3 := Lib.hid h3; have H4 := Lib.hid h4; have H5 := Lib.hid h5; have H6 := Lib.hid h6; have H8 := Lib.hid h8; have H9 := Lib.hid h9; clear h1 h2 h3 h4 h5 h6 h8 h9
  go_enter Try.func66, Try.ntmps66
  go_wp2_with fail
  refine (zero_made tb _ _ _ H1.out).mono ?_
  rintro e w1 ⟨rfl, rfl⟩
  go_wp2_with fail
  refine (del_any t k _ H2.out H4.out H5.out (by omega)).mono ?_
  rintro e w1 ⟨rfl, hT, hb⟩
  have k1 : Blk w1 tb 178 #[.bool true, ptT t, .int .i64 (sz t)] := Blk.butS H1.out hb H3.out
  have hbk := del_bk t k H5.out H4.out
  have hnd : Hid (tb ∉ bk (delT t k)) := Lib.hid fun hq => H3.out (hbk.1 _ hq)
  obtain ⟨pq, hpq⟩ := ptT_ptr (delT t k)
  have HPQ := Lib.hid hpq
  have k2 := blk_set k1 1 (by simp) (.pointer pq)
  have k3 := blk_set k2 2 (by simp) (.int .i64 ((sz t : Int) - 1))
  have d1 : w1.cell? ⟨tb, 1, none⟩ = some (ptT t) := k1.cell (k := 1) rfl
  have d1f := k1.frozen 1
  have d2 : (w1.setCell ⟨tb, 1, none⟩ (.pointer pq)).cell? ⟨tb, 2, none⟩ = some (.int .i64 (sz t)) := k2.cell (k := 2) rfl
  have d2f := k2.frozen 2
  have hsz := del_sz' (k := k) H5.out H6.out
  have K2 := Lib.hid k2; have K3 := Lib.hid k3; have HT := Lib.hid hT; have HB := Lib.hid hb; have HS := Lib.hid hsz; have HBK := Lib.hid hbk
  clear k1 k2 k3 hT hb hsz hbk
  have hfin : Hid (∀ (x : World) (s : Value), Blk x tb 178 #[.bool true, ptT (delT t k), .int .i64 (sz (delT t k))] → TreeAt x (delT t k) → But (fun q => q = tb ∨ q ∈ bk t) w x → ∃ (d' : Int) (S' : Nat → Prop), TrO S' x tb (delL (il t) k) d' ∧ Grew S S' w x) := Lib.hid fun x s hx hy hz =>
    ⟨_, fun q => q = tb ∨ q ∈ bk (delT t k), ⟨_, hx, hy, hnd.out, HBK.out.2, (del_avl t k H5.out).1, del_srt H5.out H6.out, del_il t k H5.out H6.out, rfl, fun q => Iff.rfl⟩,
      fun q hq => .inl ((H9.out _).2 (by
        rcases hq with rfl | hq
        · exact .inl rfl
        · exact .inr (HBK.out.1 _ hq))),
      hz.mono fun q _ hq => (H9.out q).2 hq⟩
  have HB2 : Hid (But (fun q => q = tb ∨ q ∈ bk t) w w1) := Lib.hid (HB.out.mono fun q _ hq => .inr hq)
  rw [hpq]; clear hpq
  cases hh : hasT t k with
  | false =>
    go_wp2
    go_ret
    have hs : sz (delT t k) = sz t := by have := HS.out; rw [hh] at this; simpa using this
    obtain ⟨d', S', q1, q2⟩ := hfin.out _ (.bool true) (by have := K2.out; rw [hs, HPQ.out]; exact this) (HT.out.set hnd.out) (HB2.out.setB (.inl rfl) _)
    exact ⟨d', S', by rw [← has_il t k H6.out, hh]; rfl, q1, q2⟩
  | true =>
    go_wp2
    go_ret
    have hs : ((sz (delT t k) : Nat) : Int) = (sz t : Int) - 1 := by have := HS.out; rw [hh] at this; simp at this; omega
    obtain ⟨d', S', q1, q2⟩ := hfin.out _ (.bool true) (by have := K3.out; rw [hs, HPQ.out]; exact this) ((HT.out.set hnd.out).set hnd.out) ((HB2.out.setB (.inl rfl) _).setB (.inl rfl) _)
    exact ⟨d', S', by rw [← has_il t k H6.out, hh]; rfl, q1, q2⟩
end Go.Proofs.Ytbjbcbbhmbpndaa

/- Package tree, of lists of cells: New, Get; what one that nobody made answers. Conditions: none. -/
namespace Go.Proofs.Ytbjbcbbhmbpndaa
open Go.RowKit Go.PlainAid Go.Shelf
set_option linter.unusedVariables false
set_option maxRecDepth 100000
set_option maxHeartbeats 2000000
theorem tnew_any (w : World) : Calls Try.prog 81 #[] w fun e w' => ∃ (S : Nat → Prop), e = .returned (pt w.heap.size 0) ∧ TrO S w' w.heap.size [] 0 ∧ (∀ q, S q → w.heap.size ≤ q) ∧ Below w.heap.size w w' := by
  go_enter Try.func81, Try.ntmps81
  go_wp2
  go_ret
  exact ⟨fun q => q = w.heap.size, rfl, ⟨.nil, World.alloc_heap_new w _, trivial, by simp [bk], by simp [bk], trivial, by simp [il, Srt], rfl, rfl, fun q => by simp [bk]⟩, fun q h => by rw [h]; exact Nat.le_refl _, (Below.refl _ w).alloc (Nat.le_refl _) _⟩
theorem ptT_nl : ptT .nil = .pointer none := rfl
theorem ptT_nd (b : Nat) (l : Tm) (k : ByteArray) (v : SlT) (d : Int) (r : Tm) : ptT (.nd b l k v d r) = pt b 0 := rfl
theorem getL_il : ∀ (b : Nat) (l : Tm) (k' : ByteArray) (v' : SlT) (d : Int) (r : Tm) (k : ByteArray), Srt (il (.nd b l k' v' d r)) →
    Srt (il l) ∧ Srt (il r) ∧ (klt k k' = true → getL (il (.nd b l k' v' d r)) k = getL (il l) k ∧ hasL (il (.nd b l k' v' d r)) k = hasL (il l) k) ∧
    (klt k k' = false → klt k' k = true → getL (il (.nd b l k' v' d r)) k = getL (il r) k ∧ hasL (il (.nd b l k' v' d r)) k = hasL (il r) k) ∧
    (klt k k' = false → klt k' k = false → getL (il (.nd b l k' v' d r)) k = v' ∧ hasL (il (.nd b l k' v' d r)) k = true) := fun b l k' v' d r k h => by
  obtain ⟨hl, hr, h1, h2⟩ := Srt.parts h
  show Srt (il l) ∧ Srt (il r) ∧ (klt k k' = true → getL (il l ++ (k', v') :: il r) k = getL (il l) k ∧ hasL (il l ++ (k', v') :: il r) k = hasL (il l) k) ∧ (klt k k' = false → klt k' k = true → getL (il l ++ (k', v') :: il r) k = getL (il r) k ∧ hasL (il l ++ (k', v') :: il r) k = hasL (il r) k) ∧ (klt k k' = false → klt k' k = false → getL (il l ++ (k', v') :: il r) k = v' ∧ hasL (il l ++ (k', v') :: il r) k = true)
  refine ⟨hl, hr, fun q => ⟨getL_l (a := (k', v')) q, hasL_l (a := (k', v')) q⟩, fun q1 q2 => ?_, fun q1 q2 => ?_⟩
  · rw [getL_r (fun c hc => klt_tr (h1 c hc) q2), hasL_r (fun c hc => klt_tr (h1 c hc) q2)]
    simp [getL, hasL, q1, q2]
  · have e := klt_eq q1 q2; subst e
    rw [getL_r h1, hasL_r h1]
    simp [getL, hasL, klt_irr]
theorem tget_any (S : Nat → Prop) (w : World) (tb : Nat) (L : List Kv) (d : Int) (k : ByteArray) (h : TrO S w tb L d) :
    Calls Try.prog 61 #[pt tb 0, .string k] w fun e w' => e = .returned (.tuple #[.slice (getL L k).a (getL L k).n (getL L k).c, .bool (hasL L k)]) ∧ w = w' := by
  obtain ⟨t, h1, h2, h3, h4, h5, h6, rfl, h8, h9⟩ := h
  have c1 : w.cell? ⟨tb, 1, none⟩ = some (ptT t) := h1.cell (k := 1) rfl
  obtain ⟨L, hLL⟩ : ∃ L, L = il t := ⟨_, rfl⟩
  rw [← hLL] at h6 ⊢
  have H1 := Lib.hid h1; have H2 := Lib.hid h2; have H6 := Lib.hid h6; have HLL := Lib.hid hLL; clear h1 h2 h3 h4 h5 h6 h8 h9 hLL
  go_enter Try.func61, Try.ntmps61
  go_wp2_with fail
  refine (zero_made tb _ _ _ H1.out).mono ?_
  rintro e w1 ⟨rfl, rfl⟩
  go_wp2
  go_loopg [7] (sz t + 1) (fun g s7 wr => ∃ c : Tm, s7 = ptT c ∧ wr = w ∧ TreeAt w c ∧ Srt (il c) ∧ (sz c : Int) + 1 ≤ g ∧ getL (il c) k = getL L k ∧ hasL (il c) k = hasL L k)
  case atStart => exact ⟨t, rfl, rfl, H2.out, HLL.out ▸ H6.out, by omega, by rw [HLL.out], by rw [HLL.out]⟩
  case round =>
    obtain ⟨c, rfl, rfl, hc, hs, hg, hgl, hhl⟩ := hrel
    cases c with
    | nil =>
      simp only [ptT_nl]
      have HG := Lib.hid hgl; have HH := Lib.hid hhl; clear hgl hhl hg hs hc
      go_wp2
      go_ret2
      exact ⟨by rw [← HG.out, ← HH.out]; rfl, rfl⟩
    | nd b l k' v' d' r =>
      obtain ⟨hB, hl, hr⟩ := hc
      obtain ⟨s1, s2, e1, e2, e3⟩ := getL_il b l k' v' d' r k hs
      have q0 : wr.cell? ⟨b, 0, none⟩ = some (.string k') := hB.cell (k := 0) rfl
      have q1 : wr.cell? ⟨b, 1, none⟩ = some (.slice v'.a v'.n v'.c) := hB.cell (k := 1) rfl
      have q3 : wr.cell? ⟨b, 3, none⟩ = some (ptT l) := hB.cell (k := 3) rfl
      have q4 : wr.cell? ⟨b, 4, none⟩ = some (ptT r) := hB.cell (k := 4) rfl
      have hz : (sz (.nd b l k' v' d' r) : Int) = 1 + sz l + sz r := by simp [sz]
      have hg' : (1 + sz l + sz r : Int) + 1 ≤ gk := by rw [hz] at hg; exact hg
      have HGL := Lib.hid hgl; have HHL := Lib.hid hhl; have HL := Lib.hid hl; have HR := Lib.hid hr; have HS1 := Lib.hid s1; have HS2 := Lib.hid s2; have E1 := Lib.hid e1; have E2 := Lib.hid e2; have E3 := Lib.hid e3
      clear hgl hhl hl hr s1 s2 e1 e2 e3 hB hs hg hz
      simp only [ptT_nd]
      cases x1 : klt k k' with
      | true =>
        have x1' : Op.bytesLess k.toList k'.toList = true := x1
        have X1 := Lib.hid x1; clear x1
        go_wp2
        go_roundg (gk - 1)
        case rel => exact ⟨l, rfl, rfl, HL.out, HS1.out, by omega, by rw [← (E1.out X1.out).1]; exact HGL.out, by rw [← (E1.out X1.out).2]; exact HHL.out⟩
        case measure => omega
      | false =>
        have x1' : Op.bytesLess k.toList k'.toList = false := x1
        have X1 := Lib.hid x1; clear x1
        cases x2 : klt k' k with
        | true =>
          have x2' : (!(Op.bytesLess k.toList k'.toList || k.toList == k'.toList)) = true := by rw [tbl_flip]; simpa [klt] using x2
          have x3 : (k.toList == k'.toList) = false := by rw [x1'] at x2'; simpa using x2'
          have X2 := Lib.hid x2; clear x2
          go_wp2
          go_roundg (gk - 1)
          case rel => exact ⟨r, rfl, rfl, HR.out, HS2.out, by omega, by rw [← (E2.out X1.out X2.out).1]; exact HGL.out, by rw [← (E2.out X1.out X2.out).2]; exact HHL.out⟩
          case measure => omega
        | false =>
          have x2' : (!(Op.bytesLess k.toList k'.toList || k.toList == k'.toList)) = false := by rw [tbl_flip]; simpa [klt] using x2
          have x3 : (k.toList == k'.toList) = true := by rw [x1'] at x2'; simpa using x2'
          have X2 := Lib.hid x2; clear x2
          go_wp2
          go_ret2
          exact ⟨by rw [← HGL.out, ← HHL.out, (E3.out X1.out X2.out).1, (E3.out X1.out X2.out).2]; rfl, rfl⟩
end Go.Proofs.Ytbjbcbbhmbpndaa

/- Package tree, of lists of cells: Keys. Conditions: at most 80000 keys. -/
namespace Go.Proofs.Ytbjbcbbhmbpndaa
open Go.RowKit Go.Shelf
attribute [local go_sem] Oper.semAt_some
set_option linter.unusedVariables false

theorem wk_il (F : ByteArray) : ∀ t : Tm, Srt (il t) → wk F t = wkL F (il t)
  | .nil, _ => rfl
  | .nd b l k v d r, h => by
    obtain ⟨hl, hr, h1, h2⟩ := Srt.parts h
    have e1 := wk_il F l hl; have e2 := wk_il F r hr
    show wk F (.nd b l k v d r) = wkL F (il l ++ (k, v) :: il r)
    unfold wkL at *
    rw [wk]
    by_cases q : klt k F = true
    · rw [if_pos q, List.filter_append, List.filter_cons_of_neg (by simp [q]), List.filter_eq_nil_iff.2 (fun a ha => by simp [klt_tr (h1 a ha) q]), e2]; rfl
    · rw [if_neg q, List.filter_append, List.filter_cons_of_pos (by simpa using q), e1, e2]; simp
theorem wkL_len (F : ByteArray) (L : List Kv) : (wkL F L).length ≤ L.length := by unfold wkL; rw [List.length_map]; exact List.length_filter_le _ _
/-- The range ends ahead of this key. -/
def hit (T k : ByteArray) : Bool := !(T.toList.isEmpty) && !(Op.bytesLess k.toList T.toList)
def kcut (T : ByteArray) (l : List ByteArray) : List ByteArray := l.takeWhile fun k => !(hit T k)
theorem kcut_all {T : ByteArray} {l : List ByteArray} (h : ∀ x ∈ l, hit T x = false) : kcut T l = l := by
  induction l with
  | nil => rfl
  | cons a r ih => unfold kcut at *; rw [List.takeWhile_cons, if_pos (by simp [h a (by simp)]), ih (fun x hx => h x (by simp [hx]))]
theorem kcut_at {T : ByteArray} {l z : List ByteArray} {x : ByteArray} (h : ∀ x ∈ l, hit T x = false) (hx : hit T x = true) : kcut T (l ++ x :: z) = l := by
  induction l with
  | nil => unfold kcut; rw [List.nil_append, List.takeWhile_cons, if_neg (by simp [hx])]
  | cons a r ih => unfold kcut at *; rw [List.cons_append, List.takeWhile_cons, if_pos (by simp [h a (by simp)]), ih (fun x hx => h x (by simp [hx]))]
theorem info_strT : (Try.prog.info? 9).map (fun i => (i.zero, i.size, i.bytes)) = some (some (.string ⟨#[]⟩), 1, 16) := by kernel_rfl
theorem grown_drew (X : World) : X.grownBy X.drew none := ⟨rfl, rfl, rfl, Nat.le_refl _, fun _ _ _ => rfl⟩
theorem titer_stops (n₀ Bn tb : Nat) (F : ByteArray) (t : Tm) (u s : Value) (w : World) (hT : TreeAt w t) (hq : ∀ q ∈ bk t, q < n₀) (hb : Blk w tb 178 #[u, ptT t, s]) (hc : Boxed w Bn 117 (pt tb 0)) (hc1 : Boxed w (Bn + 1) 9 (.string F)) :
    SeqStopsK Fence.wide 2 Try.prog 122 #[.pointer (some ⟨Bn, 0, none⟩), .pointer (some ⟨Bn + 1, 0, none⟩)] (fun x : ByteArray => #[.string x]) (Below n₀) (fun ys => ys = wk F t) (fun zs => zs ≠ [] ∧ zs <+: wk F t) (wk F t).length w := fun lp J Jx W hW hJ _ hY h0 => by
  have hg := below_grown hW
  refine (titer_in lp n₀ Bn tb F t u s J Jx (fun pre x W1 h hp => hY pre x W1 h (by have := hp.length_le; simp at this; omega)) (fun pre X h => hJ pre X X.drew none h (grown_drew X) (fun _ e => nomatch e)) W (hT.gr hg (fun q e => nomatch e)) hq h0 (hb.kept hg (by simp)) (hc.kept hg (by simp)).cell (hc1.kept hg (by simp)).cell).mono ?_
  rintro e W' ⟨hv, h | ⟨zs, h1, h2, h3⟩⟩
  · exact ⟨hv, .inl ⟨_, rfl, h⟩⟩
  · exact ⟨hv, .inr ⟨zs, ⟨h1, h2⟩, h3⟩⟩
theorem own_lowT {w : World} {B B' : Nat} {e : TypeId} {k : Nat} {v : Value} {n : Nat} {xs : List Value} (h : w.ownsRow B e k v n xs) (hb : B' ≤ B) : w.ownsRow B' e k v n xs := by
  obtain ⟨h1, h2⟩ := h
  refine ⟨h1, ?_⟩
  rcases h2 with h2 | ⟨g, cap, cur, hv, hg, r⟩
  · exact Or.inl h2
  · exact Or.inr ⟨g, cap, cur, hv, Nat.le_trans hb hg, r⟩
theorem own_sliceT {W : World} {base : Nat} {e : TypeId} {size : Nat} {v : Value} {k : Nat} {xs : List Value} (h : W.ownsRow base e size v k xs) : ∃ ao n cap, v = .slice ao n cap := by
  rcases h.2 with ⟨rfl, _⟩ | ⟨g, cap, cur, rfl, _⟩
  · exact ⟨_, _, _, rfl⟩
  · exact ⟨_, _, _, rfl⟩
/-- What the loop of Keys keeps. -/
def IK (N : Nat) (T : ByteArray) (pre : List ByteArray) (W : World) : Prop := (∃ v, Boxed W (N + 1) 129 v ∧ W.ownsRow (N + 4) 9 1 v pre.length (pre.flatMap strE) ∧ True) ∧ Boxed W N 9 (.string T)
theorem IK.own (N : Nat) (T : ByteArray) : Own (IK N T) := fun s X Y row hs hg hr =>
  ⟨holdsRow_own (N + 4) (N + 1) 129 9 1 (fun pre : List ByteArray => pre.length) (fun pre => pre.flatMap strE) (fun _ _ => True) s X Y row hs.1 hg hr,
    boxed_own N 9 (fun _ => .string T) s X Y row hs.2 hg hr⟩

set_option maxRecDepth 100000 in
set_option maxHeartbeats 4000000 in
theorem tkeys_any (S : Nat → Prop) (w : World) (tb : Nat) (L : List Kv) (d : Int) (F T : ByteArray) (h : TrO S w tb L d) (hL : L.length ≤ 80000) :
    Calls Try.prog 64 #[pt tb 0, .string F, .string T] w fun e w' => ∃ u, e = .returned u ∧ w'.ownsRow w.heap.size 9 1 u (kcut T (wkL F L)).length ((kcut T (wkL F L)).flatMap strE) ∧ Below w.heap.size w w' := by
  obtain ⟨t, h1, h2, h3, h4, h5, h6, rfl, h8, h9⟩ := h
  have hlen := wkL_len F (il t)
  rw [← wk_il F t h6] at hlen ⊢
  obtain ⟨i0, hi, hz0, hz1, hz2⟩ := info_parts info_strT
  obtain ⟨N, hN⟩ : ∃ N, N = w.heap.size := ⟨_, rfl⟩
  have hq : ∀ q ∈ bk t, q < N := fun q hq => by rw [hN]; exact h2.lt q hq
  have H1 := Lib.hid h1; have H2 := Lib.hid h2; have HQ := Lib.hid hq; have HLEN := Lib.hid (Nat.le_trans hlen hL)
  clear h1 h2 h3 h4 h5 h6 h8 h9 hq hL hlen
  refine (callsIn_wide (n := 3)).1 ?_
  refine callsIn_of_wp_marks Try.func64 rfl trivial ?_ rfl
  simp only [Try.ntmps64, List.size_toArray, List.length_cons, List.length_nil, Nat.reduceAdd, Nat.reduceSub, Array.replicate_succ, Array.replicate_zero, List.push_toArray, List.append_toArray, List.nil_append, List.cons_append]
  have hn1 : 1 ≤ (3 : Nat) := by omega
  rw [← hN]
  have HN := Lib.hid hN; clear hN
  gi_wp2_with (first
    | (refine ⟨trivial, ?_⟩; gi_at_call 92; refine (callsIn_wide.2 (zero_made tb _ _ _ (Blk.kept H1.out (World.grownBy_alloc _ _ none) (by simp)))).mono ?_; rintro e w1 ⟨rfl, rfl⟩)
    | (refine ⟨trivial, ?_⟩; gi_at_call 95; refine (keysFrom_any tb F _).mono ?_; rintro e w' ⟨rfl, rfl⟩))
  have bT := (((Boxed.new w 9 (.string T)).alloc (.cells #[.slice none 0 0] 129)).alloc (.cells #[pt tb 0] 117)).alloc (.cells #[.string F] 9)
  have bL := ((Boxed.new (w.alloc (.cells #[.string T] 9)) 129 (.slice none 0 0)).alloc (.cells #[pt tb 0] 117)).alloc (.cells #[.string F] 9)
  have bP := (Boxed.new ((w.alloc (.cells #[.string T] 9)).alloc (.cells #[.slice none 0 0] 129)) 117 (pt tb 0)).alloc (.cells #[.string F] 9)
  have bF := Boxed.new (((w.alloc (.cells #[.string T] 9)).alloc (.cells #[.slice none 0 0] 129)).alloc (.cells #[pt tb 0] 117)) 9 (.string F)
  have hB0 : Below w.heap.size w ((((w.alloc (.cells #[.string T] 9)).alloc (.cells #[.slice none 0 0] 129)).alloc (.cells #[pt tb 0] 117)).alloc (.cells #[.string F] 9)) := ((((Below.refl _ w).alloc (Nat.le_refl _) _).alloc (by simp) _).alloc (by simp; omega) _).alloc (by simp; omega) _
  have hsz : ((((w.alloc (.cells #[.string T] 9)).alloc (.cells #[.slice none 0 0] 129)).alloc (.cells #[pt tb 0] 117)).alloc (.cells #[.string F] 9)).heap.size = w.heap.size + 4 := by simp
  simp only [World.size_alloc] at bT bL bP bF ⊢
  rw [← HN.out] at bT bL bP bF hB0 hsz ⊢
  obtain ⟨W0, hW0⟩ : ∃ W0, (((w.alloc (.cells #[.string T] 9)).alloc (.cells #[.slice none 0 0] 129)).alloc (.cells #[pt tb 0] 117)).alloc (.cells #[.string F] 9) = W0 := ⟨_, rfl⟩
  rw [hW0] at bT bL bP bF hB0 hsz ⊢
  clear hW0
  have hNW : N ≤ W0.heap.size := by omega
  have hk0 : Blk W0 tb 178 #[.bool true, ptT t, .int .i64 (sz t)] := Blk.kept H1.out (below_grown (HN.out ▸ hB0)) (by simp)
  have ht0 : TreeAt W0 t := H2.out.gr (below_grown (HN.out ▸ hB0)) (fun q e => nomatch e)
  refine wpIn_rangeFunc_ownH rfl hn1 (gf := 122) (lb := #[.pointer (some ⟨N + 1 + 1, 0, none⟩), .pointer (some ⟨N + 1 + 1 + 1, 0, none⟩)]) rfl trivial (enters_of Try.func122 (by kernel_rfl) rfl)
    (titer_stops N (N + 1 + 1) tb F t _ _ W0 ht0 HQ.out hk0 bP bF) Below.trans (belowK_b (by omega)) (Below.refl _ _) (fun _ => rfl)
    (fun pre W => (IK N T pre W ∧ ∀ x ∈ pre, hit T x = false) ∧ Below N w W)
    (fun c pre W => (∃ pre' x, c = .exit 0 ∧ pre = pre' ++ [x] ∧ IK N T pre' W ∧ (∀ y ∈ pre', hit T y = false) ∧ hit T x = true) ∧ Below N w W)
    ?hI ?hIx ⟨⟨⟨⟨_, bL, World.ownsRow_nil _ _ _ _, trivial⟩, bT⟩, by simp⟩, hB0⟩
    (fun x a' W => a' = { tmps := #[pt tb 0, .string F, .string T, undef, undef, .pointer (some ⟨N, 0, none⟩), .slice none 0 0, .pointer (some ⟨N + 1, 0, none⟩), .string x, pt tb 0, .bool false, pt tb 0, .string F, .func (.func 122) #[] #[.pointer (some ⟨N + 1 + 1, 0, none⟩), .pointer (some ⟨N + 1 + 1 + 1, 0, none⟩)], .string x, undef, undef, undef, undef, undef, undef, undef, undef, undef, undef, undef, undef], defers := [] })
    (fun x a' _ X Y row hs hg hr => hs)
    ?assign ?body ?done ?stop
  case hI => exact fun s' X Y row hs' hg hr => ⟨⟨IK.own N T s' X Y row hs'.1.1 hg (fun r e => (hr r e).2), hs'.1.2⟩, ownFrom_below (by have := HN.out; omega) hNW s' X Y row hs'.2 hg hr⟩
  case hIx =>
    rintro c s' X Y row ⟨⟨pre', x, q1, q2, q3, q4⟩, q5⟩ hg hr
    exact ⟨⟨pre', x, q1, q2, IK.own N T pre' X Y row q3 hg (fun r e => (hr r e).2), q4⟩, ownFrom_below (by have := HN.out; omega) hNW s' X Y row q5 hg hr⟩
  case assign =>
    rintro lp pre x W K ⟨⟨hIA, hg⟩, hB⟩ hK
    have HG := Lib.hid hg; have HSZ := Lib.hid hsz; have HIA := Lib.hid hIA; have HB := Lib.hid hB; clear hg hsz hIA hB
    gi_wp2
    exact hK _ _ ((KeepsOthers.refl _).from _) (Below.refl _ _) ⟨⟨HIA.out, HG.out⟩, HB.out⟩ rfl
  case body =>
    rintro lp pre x a' W hlp ⟨r, hr⟩ ⟨⟨⟨⟨v, hv, hrow, -⟩, bT'⟩, hg⟩, hB⟩ rfl hlt
    have hB4 : N + 4 ≤ W.heap.size := by have := (Array.getElem?_eq_some_iff.1 hr).1; omega
    have cv := hv.cell; have cT := bT'.cell
    have hlen := HLEN.out
    have HG := Lib.hid hg; have HSZ := Lib.hid hsz; have HBB := Lib.hid hB; have HBT := Lib.hid bT'
    clear hg hsz hB bT' bT bL bP bF hk0 ht0
    cases x1 : T.toList.isEmpty with
    | true =>
      gi_wp2_with (gi_at_builtin; refine wpListIn_append_own _ rfl _ _ 129 rfl (N + 4) 9 i0 (.string ⟨#[]⟩) 1 16 Try.underlying129 hi hz0 hz1 hz2 rfl (by decide) _ _ _ rfl (hrow.alloc _) ⟨W.heap.size, 0, none⟩ 1 1 [.string x] rfl rfl (cell_one_new _ _ _) (by simp [Value.oneCell']) (by unfold maxLen; omega) (by omega) (by simp; omega) ?_; intro v' w1 hown' hgrow _; obtain ⟨g', cap', rfl⟩ := ownsRow_succ hown'; obtain ⟨p1, p2, p3, p4, p5⟩ := hv.appended (by decide) (own_lowT hrow (B' := N + 1) (by omega)) (by omega) (Nat.le_refl _) (own_lowT hown' (B' := N + 1) (by omega)) hgrow; have hc1 := p1.cell; have hf1 := p1.frozen)
      refine ⟨p4.from _, p5.mono (by omega), ⟨⟨⟨_, p2, ?_, trivial⟩, ?_⟩, ?_⟩, HBB.out.trans (p5.mono (by omega))⟩
      · rw [List.length_append, List.flatMap_append]
        exact hown'.kept (grownBy_setCell' w1 (N + 1) _) (.inr (p1.not_row (by decide) hown').symm)
      · exact (p5.block N (by omega)).trans HBT.out
      · intro y hy
        rcases List.mem_append.1 hy with hy | hy
        · exact HG.out y hy
        · simp only [List.mem_singleton] at hy; subst hy; unfold hit; rw [x1]; rfl
    | false =>
      cases x2 : Op.bytesLess x.toList T.toList with
      | true =>
        gi_wp2_with (gi_at_builtin; refine wpListIn_append_own _ rfl _ _ 129 rfl (N + 4) 9 i0 (.string ⟨#[]⟩) 1 16 Try.underlying129 hi hz0 hz1 hz2 rfl (by decide) _ _ _ rfl (hrow.alloc _) ⟨W.heap.size, 0, none⟩ 1 1 [.string x] rfl rfl (cell_one_new _ _ _) (by simp [Value.oneCell']) (by unfold maxLen; omega) (by omega) (by simp; omega) ?_; intro v' w1 hown' hgrow _; obtain ⟨g', cap', rfl⟩ := ownsRow_succ hown'; obtain ⟨p1, p2, p3, p4, p5⟩ := hv.appended (by decide) (own_lowT hrow (B' := N + 1) (by omega)) (by omega) (Nat.le_refl _) (own_lowT hown' (B' := N + 1) (by omega)) hgrow; have hc1 := p1.cell; have hf1 := p1.frozen)
        refine ⟨p4.from _, p5.mono (by omega), ⟨⟨⟨_, p2, ?_, trivial⟩, ?_⟩, ?_⟩, HBB.out.trans (p5.mono (by omega))⟩
        · rw [List.length_append, List.flatMap_append]
          exact hown'.kept (grownBy_setCell' w1 (N + 1) _) (.inr (p1.not_row (by decide) hown').symm)
        · exact (p5.block N (by omega)).trans HBT.out
        · intro y hy
          rcases List.mem_append.1 hy with hy | hy
          · exact HG.out y hy
          · simp only [List.mem_singleton] at hy; subst hy; unfold hit; rw [x1, x2]; rfl
      | false =>
        gi_wp2
        exact ⟨(KeepsOthers.refl _).from _, ⟨_, _, rfl, rfl, ⟨⟨v, hv, hrow, trivial⟩, HBT.out⟩, HG.out, (by unfold hit; rw [x1, x2]; rfl)⟩, HBB.out⟩
  case done =>
    rintro D ys W hD rfl ⟨⟨⟨⟨v, hv, hrow, -⟩, bT'⟩, hg⟩, hB⟩ hK
    have hc := hv.cell
    obtain ⟨ao, n, cap, rfl⟩ := own_sliceT hrow
    have HROW := Lib.hid hrow; have HB := Lib.hid hB; have HK := Lib.hid hK; have HSZ := Lib.hid hsz; have HG := Lib.hid hg
    clear hrow hB hK hsz hg bT bL bP bF hk0 ht0 bT'
    gi_wp2
    refine ⟨by simp, .inl ⟨_, _, rfl, run_takeDeferred HK.out, ?_⟩⟩
    refine ⟨_, results_tmp rfl _ _ _, _, rfl, ?_, HB.out.trans (belowK_b (w := w) (by have := HN.out; omega) W D _ _ (by have := HN.out; omega) HK.out rfl rfl)⟩
    rw [kcut_all HG.out]
    exact ownsRow_putObj (own_lowT HROW.out (by omega)) _ HK.out rfl
  case stop =>
    rintro D c pre W hD ⟨hne, hpre⟩ ⟨⟨pre', x, rfl, rfl, ⟨⟨v, hv, hrow, -⟩, bT'⟩, hg, hx⟩, hB⟩ hK
    have hc := hv.cell
    obtain ⟨ao, n, cap, rfl⟩ := own_sliceT hrow
    have HROW := Lib.hid hrow; have HB := Lib.hid hB; have HK := Lib.hid hK; have HSZ := Lib.hid hsz; have HG := Lib.hid hg; have HX := Lib.hid hx; have HP := Lib.hid hpre
    clear hrow hB hK hsz hg bT bL bP bF hk0 ht0 bT' hx hpre hne
    gi_wp2
    refine ⟨by simp, .inl ⟨_, _, rfl, run_takeDeferred HK.out, ?_⟩⟩
    refine ⟨_, results_tmp rfl _ _ _, _, rfl, ?_, HB.out.trans (belowK_b (w := w) (by have := HN.out; omega) W D _ _ (by have := HN.out; omega) HK.out rfl rfl)⟩
    obtain ⟨z, hz⟩ := HP.out
    rw [← hz, List.append_assoc, List.singleton_append, kcut_at HG.out HX.out]
    exact ownsRow_putObj (own_lowT HROW.out (by omega)) _ HK.out rfl
end Go.Proofs.Ytbjbcbbhmbpndaa

/- Package vers: what the program's Right, place, At, Put, Prune answer; rows of their own; what follows of versions that rise. Conditions: at most 900 versions. -/
namespace Go.Proofs.Ytbjbcbbhmbpndaa
open Go.RowKit Go.PlainAid
set_option linter.unusedVariables false



/-- A version: timestamp, value, is it gone. -/
abbrev CellT := Int × ByteArray × Bool
def cellE (c : CellT) : List Value := [.int .u64 c.1, .string c.2.1, .bool c.2.2]
def cellOk (c : CellT) : Prop := (Lit.int .u64 c.1).wf = true
section
variable {H : Type} {enc : TypeId × Value → H} {w : World} {base : Nat} {spare : Nat → Bool} {held : Bool}
end

/-- The timestamp at a place. -/
def ts (l : List CellT) (i : Nat) : Int := (l.getD i (0, ByteArray.empty, false)).1
theorem ts_get {l : List CellT} {i : Nat} (h : i < l.length) : ts l i = l[i].1 := by
  simp [ts, List.getD, List.getElem?_eq_getElem h]
/-- Do the timestamps rise, the first one above a? -/
def rises : Int → List CellT → Bool
  | _, [] => true
  | a, c :: r => decide (a < c.1) && rises c.1 r
/-- The last timestamp, a without. -/
def lastTs : Int → List CellT → Int
  | a, [] => a
  | _, c :: r => lastTs c.1 r
theorem rises_snoc : ∀ (a : Int) (l : List CellT) (c : CellT), rises a (l ++ [c]) = (rises a l && decide (lastTs a l < c.1))
  | a, [], c => by show (decide (a < c.1) && true) = (true && decide (a < c.1)); rw [Bool.and_true, Bool.true_and]
  | a, d :: r, c => by
    show (decide (a < d.1) && rises d.1 (r ++ [c])) = ((decide (a < d.1) && rises d.1 r) && decide (lastTs d.1 r < c.1))
    rw [rises_snoc d.1 r c, Bool.and_assoc]
theorem lastTs_snoc : ∀ (a : Int) (l : List CellT) (c : CellT), lastTs a (l ++ [c]) = c.1
  | _, [], _ => rfl
  | _, d :: r, c => lastTs_snoc d.1 r c
theorem lastTs_ts (a : Int) (l : List CellT) (h : 0 < l.length) : lastTs a l = ts l (l.length - 1) := by
  obtain ⟨r, c, rfl⟩ : ∃ r c, l = r ++ [c] := ⟨_, _, (List.dropLast_concat_getLast (by intro e; subst e; simp at h)).symm⟩
  rw [lastTs_snoc, ts_get (by simp)]; simp
theorem rises_lt : ∀ (a : Int) (l : List CellT), rises a l = true → ∀ i j, i < j → j < l.length → a < ts l i ∧ ts l i < ts l j
  | a, [], _, i, j, _, hj => absurd hj (by simp)
  | a, c :: r, h, i, j, hij, hj => by
    simp only [rises, Bool.and_eq_true, decide_eq_true_eq] at h
    obtain ⟨h1, h2⟩ := h
    have key : ∀ k, k < r.length → c.1 < ts r k := fun k hk => by
      cases k with
      | zero => cases r with
        | nil => simp at hk
        | cons d r => simp only [rises, Bool.and_eq_true, decide_eq_true_eq] at h2; exact h2.1
      | succ k => exact Int.lt_trans (rises_lt c.1 r h2 0 (k + 1) (by omega) hk).1 (rises_lt c.1 r h2 0 (k + 1) (by omega) hk).2
    obtain ⟨j, rfl⟩ : ∃ k, j = k + 1 := ⟨j - 1, by omega⟩
    have hj' : j < r.length := by simpa using hj
    cases i with
    | zero => exact ⟨h1, key j hj'⟩
    | succ i =>
      have := rises_lt c.1 r h2 i j (by omega) hj'
      exact ⟨Int.lt_trans h1 this.1, this.2⟩

/-- The last place below k whose timestamp is not above t; -1 without. -/
def down (l : List CellT) (t : Int) : Nat → Int
  | 0 => -1
  | k + 1 => if ts l k ≤ t then k else down l t k
def lastI (l : List CellT) (t : Int) : Int := down l t l.length
theorem down_at {l : List CellT} {t : Int} (k : Nat) : ∀ (n : Nat), k ≤ n → (∀ j, j < k → ts l j ≤ t) → (∀ j, k ≤ j → j < n → t < ts l j) → down l t n = (k : Int) - 1
  | 0, h, _, _ => by obtain rfl : k = 0 := by omega
                     rfl
  | n + 1, h, h1, h2 => by
    by_cases hk : k ≤ n
    · have := h2 n hk (by omega)
      rw [down, if_neg (by omega)]
      exact down_at k n hk h1 (fun j hj hjn => h2 j hj (by omega))
    · obtain rfl : k = n + 1 := by omega
      have := h1 n (by omega)
      rw [down, if_pos this]; omega
theorem down_bd (l : List CellT) (t : Int) : ∀ n, -1 ≤ down l t n ∧ down l t n < n ∧ (0 ≤ down l t n → ts l (down l t n).toNat ≤ t)
  | 0 => by simp [down]
  | n + 1 => by
    rw [down]
    split
    · refine ⟨by omega, by omega, fun _ => ?_⟩
      rw [Int.toNat_natCast]; assumption
    · have := down_bd l t n
      exact ⟨this.1, by omega, this.2.2⟩



theorem takeV_snoc {α : Type} {l : List α} {i : Nat} (h : i < l.length) : l.take (i + 1) = l.take i ++ [l[i]] := by
  rw [List.take_add_one, List.getElem?_eq_getElem h]; rfl
theorem take_rises {l : List CellT} {i : Nat} (h : i < l.length) : rises 0 (l.take (i + 1)) = (rises 0 (l.take i) && decide (lastTs 0 (l.take i) < l[i].1)) := by
  rw [takeV_snoc h, rises_snoc]
theorem take_last {l : List CellT} {i : Nat} (h : i < l.length) : lastTs 0 (l.take (i + 1)) = l[i].1 := by
  rw [takeV_snoc h, lastTs_snoc]
theorem rises_take {l : List CellT} (i : Nat) (h : rises 0 (l.take i) = false) : rises 0 l = false := by
  have key : ∀ (a : Int) (x y : List CellT), rises a (x ++ y) = true → rises a x = true := by
    intro a x; induction x generalizing a with
    | nil => intro y _; rfl
    | cons c x ih => intro y h; simp only [List.cons_append, rises, Bool.and_eq_true] at h ⊢; exact ⟨h.1, ih _ y h.2⟩
  rw [← List.take_append_drop i l]
  cases e : rises 0 (l.take i ++ l.drop i) with
  | false => rfl
  | true => rw [key _ _ _ e] at h; cases h

set_option maxRecDepth 100000 in
set_option maxHeartbeats 400000 in
theorem right_any (v : Value) (l : List CellT) (w : World) (hs : SliceOf cellE 3 w v l) (hw : ∀ c ∈ l, cellOk c) :
    Calls Try.prog 124 #[v] w fun e w' => e = .returned (.bool (rises 0 l)) ∧ Below w.heap.size w w' := by
  obtain ⟨ao, cap, rfl, hcap, hcm, _, hcell⟩ := hs
  have HC := Lib.hid hcell; clear hcell
  go_enter Try.func124, Try.ntmps124
  go_wp2
  go_loopg [3, 8] (l.length + 1) (fun g s3 s8 wr => ∃ i : Nat, s8 = .int .i64 i ∧ i ≤ l.length ∧ l.length + 1 ≤ i + g ∧ s3 = .int .u64 (lastTs 0 (l.take i)) ∧ rises 0 (l.take i) = true ∧ Below w.heap.size w wr)
  case atStart => exact ⟨0, rfl, by omega, by omega, rfl, rfl, Below.refl _ _⟩
  case round =>
    obtain ⟨i, rfl, hi, hg, rfl, hri, hbel⟩ := hrel
    have HB := Lib.hid hbel; have hsz := hbel.size; have HRI := Lib.hid hri
    clear hbel hri
    by_cases hlt : i < l.length
    · obtain ⟨b, off, rfl, hr⟩ := HC.out i hlt
      have hr1 : wr.rangeAt b (off + i * 3) (cellE l[i]) := fun j u hu => cell_below HB.out (hr j u hu)
      have h1 := take_rises hlt
      have h2 := take_last hlt
      obtain ⟨c, hc⟩ : ∃ c, c = l[i] := ⟨_, rfl⟩
      rw [← hc] at hr1 h1 h2
      obtain ⟨p, hp⟩ : ∃ p, p = lastTs 0 (l.take i) := ⟨_, rfl⟩
      rw [← hp] at h1
      rw [← hp]
      have H1 := Lib.hid h1; have H2 := Lib.hid h2; have HR := Lib.hid hr1
      clear hr h1 h2 hr1 hc hp
      by_cases hlo : p < c.1
      · go_wp2_with (refine wpList_load_mid rfl 127 (.tmp 10) rfl b (off + i * 3) rfl (cellE c) _ HR.out Try.underlying127 rfl (by kernel_rfl) ?_; unfold cellE)
        go_roundg (gk - 1)
        case rel => exact ⟨i + 1, by go_num, by omega, by omega, by rw [H2.out], by rw [H1.out, HRI.out, decide_eq_true hlo]; rfl, HB.out.alloc hsz _⟩
        case measure => omega
      · have HF := Lib.hid (rises_take (i + 1) (by rw [H1.out, decide_eq_false hlo, Bool.and_false]))
        go_wp2_with (refine wpList_load_mid rfl 127 (.tmp 10) rfl b (off + i * 3) rfl (cellE c) _ HR.out Try.underlying127 rfl (by kernel_rfl) ?_; unfold cellE)
        go_ret
        exact ⟨by rw [HF.out]; rfl, HB.out.alloc hsz _⟩
    · have HT := Lib.hid (show rises 0 l = true by have := HRI.out; rwa [List.take_of_length_le (by omega)] at this)
      go_wp2
      go_ret
      exact ⟨by rw [HT.out]; rfl, HB.out⟩

set_option maxRecDepth 100000 in
set_option maxHeartbeats 400000 in
theorem lastOf_any (v : Value) (l : List CellT) (t : Int) (w : World) (hs : SliceOf cellE 3 w v l) :
    Calls Try.prog 125 #[v, .int .u64 t] w fun e w' => e = .returned (.int .i64 (lastI l t)) ∧ w = w' := by
  obtain ⟨ao, cap, rfl, hcap, hcm, _, hcell⟩ := hs
  have HC := Lib.hid hcell; clear hcell
  go_enter Try.func125, Try.ntmps125
  go_wp2
  go_loopg [5] (l.length + 1) (fun g s5 wr => ∃ k : Nat, s5 = .int .i64 ((k : Int) - 1) ∧ k ≤ l.length ∧ k + 1 ≤ g ∧ lastI l t = down l t k ∧ w = wr)
  case atStart => exact ⟨l.length, rfl, by omega, by omega, rfl, rfl⟩
  case round =>
    obtain ⟨k, rfl, hk, hg, hd, rfl⟩ := hrel
    have HD := Lib.hid hd; clear hd
    by_cases h0 : 0 < k
    · obtain ⟨i, rfl⟩ : ∃ i, k = i + 1 := ⟨k - 1, by omega⟩
      have hi : i < l.length := by omega
      obtain ⟨b, off, rfl, hr⟩ := HC.out i hi
      have hc := hr 0 _ rfl
      rw [Nat.add_zero] at hc
      have hix : ((i + 1 : Nat) : Int) - 1 = (i : Int) := by omega
      have hx := ts_get hi
      obtain ⟨x, hxe⟩ : ∃ x, x = l[i].1 := ⟨_, rfl⟩
      rw [← hxe] at hc hx
      have HX := Lib.hid hx
      clear hr hx hxe
      by_cases hle : x ≤ t
      · have HF := Lib.hid (show lastI l t = i by rw [HD.out, down, HX.out, if_pos hle])
        clear HD
        go_wp2
        go_ret
        exact ⟨ret_int (by rw [HF.out]; omega), rfl⟩
      · have HF := Lib.hid (show lastI l t = down l t i by rw [HD.out, down, HX.out, if_neg hle])
        clear HD
        go_wp2
        go_roundg (gk - 1)
        case rel => exact ⟨i, rfl, by omega, by omega, HF.out, rfl⟩
        case measure => omega
    · obtain rfl : k = 0 := by omega
      have HF := Lib.hid (show lastI l t = -1 from HD.out)
      have hneg : ((0 : Nat) : Int) - 1 = -1 := by omega
      clear HD
      go_wp2
      go_ret
      exact ⟨by rw [HF.out]; rfl, rfl⟩



set_option maxRecDepth 100000 in
set_option maxHeartbeats 800000 in
theorem place_rising (v : Value) (l : List CellT) (t : Int) (w : World) (hs : SliceOf cellE 3 w v l) (hw : ∀ c ∈ l, cellOk c) (hr : rises 0 l = true) :
    Calls Try.prog 96 #[v, .int .u64 t] w fun e w' => e = .returned (.int .i64 (lastI l t)) ∧ Below w.heap.size w w' := by
  have HS := Lib.hid hs; have HW := Lib.hid hw; have HR := Lib.hid hr
  obtain ⟨ao, cap, rfl, hcap, hcm, _, hcell⟩ := hs
  have HC := Lib.hid hcell; clear hcell hr
  go_enter Try.func96, Try.ntmps96
  go_wp2
  refine wp_scope_jumps 0 (fun a' w' => ∃ (low high : Nat) (u7 u16 u17 u18 u19 u20 u21 u22 u23 u24 u25 u26 u27 u28 u29 u30 u31 u32 u33 u34 : Value), a' = { tmps := #[.slice ao l.length cap, .int .u64 t, undef, undef, .int .i64 0, .int .i64 low, .int .i64 high, u7, .slice ao l.length cap, .bool true, .bool false, undef, undef, undef, .slice ao l.length cap, .int .i64 l.length, u16, u17, u18, u19, u20, u21, u22, u23, u24, u25, u26, u27, u28, u29, u30, u31, u32, u33, u34, undef, undef], defers := [] } ∧ low ≤ high ∧ high ≤ l.length ∧ (∀ j, j < low → ts l j ≤ t) ∧ (∀ j, high ≤ j → j < l.length → t < ts l j) ∧ Below w.heap.size w w')
    (fun a' _ => (intOf (a'.tmps.getD 6 undef) - intOf (a'.tmps.getD 5 undef)).toNat) rfl ?_ ?_
  · go_wp2_with fail
    refine (right_any _ _ _ HS.out HW.out).mono ?_
    rintro e w1 ⟨rfl, hb1⟩
    rw [HR.out]
    have HB := Lib.hid hb1; clear hb1
    go_wp2_with fail
    go_step3
    have H1 : Hid (∀ j, j < 0 → ts l j ≤ t) := fun j hj => absurd hj (by omega)
    have H2 : Hid (∀ j, l.length ≤ j → j < l.length → t < ts l j) := fun j h1 h2 => absurd h1 (by omega)
    by_cases hlt : 0 < l.length
    · have hmid : l.length / 2 < l.length := by omega
      obtain ⟨b, off, rfl, hrr⟩ := HC.out _ hmid
      obtain ⟨mid, hm⟩ : ∃ mid, mid = l.length / 2 := ⟨_, rfl⟩
      have hc := cell_below HB.out (hrr 0 _ rfl)
      rw [Nat.add_zero] at hc
      have hx := ts_get hmid
      obtain ⟨x, hxe⟩ : ∃ x, x = (l[l.length / 2]'hmid).1 := ⟨_, rfl⟩
      rw [← hxe] at hc hx
      rw [← hm] at hx
      have HX := Lib.hid hx; have HM := Lib.hid hm
      have hml : 0 ≤ mid := by omega
      have hmh : mid < l.length := by omega
      have hmL : mid < l.length := by omega
      clear hrr hx hxe hm hmid
      have hup : ∀ i j, i < j → j < l.length → ts l i < ts l j := fun i j hij hj => (rises_lt 0 l HR.out i j hij hj).2
      have HUP := Lib.hid hup; clear hup
      by_cases hle : x ≤ t
      · go_wp2
        go_step3
        have e1 : (l.length : Int) / 2 + 1 = ((mid + 1 : Nat) : Int) := by have := HM.out; omega
        rw [e1]
        refine ⟨rfl, ⟨mid + 1, l.length, _, _, _, _, _, _, _, _, _, _, _, _, _, _, _, _, _, _, _, _, rfl, ?_⟩⟩
        have := HX.out
        refine ⟨by omega, by omega, fun j hj => ?_, H2.out, HB.out⟩
        by_cases hjm : j = mid
        · subst hjm; omega
        · have := HUP.out j mid (by omega) hmL; omega
      · go_wp2
        go_step3
        have e1 : (l.length : Int) / 2 = ((mid : Nat) : Int) := by have := HM.out; omega
        rw [e1]
        refine ⟨rfl, ⟨0, mid, _, _, _, _, _, _, _, _, _, _, _, _, _, _, _, _, _, _, _, _, rfl, ?_⟩⟩
        have := HX.out
        refine ⟨by omega, by omega, H1.out, fun j hj hjl => ?_, HB.out⟩
        by_cases hjm : j = mid
        · subst hjm; omega
        · have := HUP.out mid j (by omega) hjl; omega
    · have HF := Lib.hid (show lastI l t = (0 : Int) - 1 from down_at 0 l.length (by omega) H1.out (fun j hj => H2.out j (by omega)))
      go_wp2
      simp only [Exit.jump]
      go_ret
      exact ⟨ret_int (by have := HF.out; omega), HB.out⟩
  · rintro a' w' ⟨low, high, u7, u16, u17, u18, u19, u20, u21, u22, u23, u24, u25, u26, u27, u28, u29, u30, u31, u32, u33, u34, rfl, hlh, hhigh, h1, h2, hbel⟩
    have HB := Lib.hid hbel; have H1 := Lib.hid h1; have H2 := Lib.hid h2
    clear hbel h1 h2
    by_cases hlt : low < high
    · have hmid : low + (high - low) / 2 < l.length := by omega
      obtain ⟨b, off, rfl, hrr⟩ := HC.out _ hmid
      obtain ⟨mid, hm⟩ : ∃ mid, mid = low + (high - low) / 2 := ⟨_, rfl⟩
      have hc := cell_below HB.out (hrr 0 _ rfl)
      rw [Nat.add_zero] at hc
      have hx := ts_get hmid
      obtain ⟨x, hxe⟩ : ∃ x, x = (l[low + (high - low) / 2]'hmid).1 := ⟨_, rfl⟩
      rw [← hxe] at hc hx
      rw [← hm] at hx
      have HX := Lib.hid hx; have HM := Lib.hid hm
      have hml : low ≤ mid := by omega
      have hmh : mid < high := by omega
      have hmL : mid < l.length := by omega
      clear hrr hx hxe hm hmid
      have hup : ∀ i j, i < j → j < l.length → ts l i < ts l j := fun i j hij hj => (rises_lt 0 l HR.out i j hij hj).2
      have HUP := Lib.hid hup; clear hup
      by_cases hle : x ≤ t
      · go_wp2
        go_step3
        have e1 : (low : Int) + ((high : Int) - (low : Int)) / 2 + 1 = ((mid + 1 : Nat) : Int) := by have := HM.out; omega
        rw [e1]
        refine ⟨rfl, ⟨mid + 1, high, _, _, _, _, _, _, _, _, _, _, _, _, _, _, _, _, _, _, _, _, rfl, ?_⟩, ?_⟩
        rotate_left
        · (simp [intOf] <;> omega)
        have := HX.out
        refine ⟨by omega, by omega, fun j hj => ?_, H2.out, HB.out⟩
        by_cases hjm : j = mid
        · subst hjm; omega
        · have := HUP.out j mid (by omega) hmL; omega
      · go_wp2
        go_step3
        have e1 : (low : Int) + ((high : Int) - (low : Int)) / 2 = ((mid : Nat) : Int) := by have := HM.out; omega
        rw [e1]
        refine ⟨rfl, ⟨low, mid, _, _, _, _, _, _, _, _, _, _, _, _, _, _, _, _, _, _, _, _, rfl, ?_⟩, ?_⟩
        rotate_left
        · (simp [intOf] <;> omega)
        have := HX.out
        refine ⟨by omega, by omega, H1.out, fun j hj hjl => ?_, HB.out⟩
        by_cases hjm : j = mid
        · subst hjm; omega
        · have := HUP.out mid j (by omega) hjl; omega
    · have HF := Lib.hid (show lastI l t = (low : Int) - 1 from down_at low l.length (by omega) H1.out (fun j hj => H2.out j (by omega)))
      go_wp2
      simp only [Exit.jump]
      go_ret
      exact ⟨ret_int (by have := HF.out; omega), HB.out⟩

theorem place_any (v : Value) (l : List CellT) (t : Int) (w : World) (hs : SliceOf cellE 3 w v l) (hw : ∀ c ∈ l, cellOk c) :
    Calls Try.prog 96 #[v, .int .u64 t] w fun e w' => e = .returned (.int .i64 (lastI l t)) ∧ Below w.heap.size w w' := by
  cases hr : rises 0 l with
  | true => exact place_rising v l t w hs hw hr
  | false =>
    have HS := Lib.hid hs; have HW := Lib.hid hw; have HR := Lib.hid hr
    clear hs hw hr
    go_enter Try.func96, Try.ntmps96
    go_wp2
    go_step3
    go_wp2_with fail
    refine (right_any _ _ _ HS.out HW.out).mono ?_
    rintro e w1 ⟨rfl, hb1⟩
    rw [HR.out]
    have HB := Lib.hid hb1; have HS1 := Lib.hid (HS.out.below hb1); clear hb1
    go_wp2_with fail
    refine (lastOf_any _ _ _ _ HS1.out).mono ?_
    rintro e w2 ⟨rfl, rfl⟩
    go_wp2
    rw [Exit.noGoto_ret]
    go_ret
    exact ⟨rfl, HB.out⟩
end Go.Proofs.Ytbjbcbbhmbpndaa
