/- Package tree: balance, way by way. Conditions: depths of at most 900000. -/
import Derived.Test.YtfjhlckklgeokaaTrcB
namespace Go.Proofs.Ytfjhlckklgeokaa
open Go.RowKit Go.PlainAid
set_option linter.unusedVariables false
set_option linter.unusedSimpArgs false

set_option maxRecDepth 100000 in
theorem balA_any (b : Nat) (c : Nat) (ll : Tm) (lr : Tm) (r : Tm) (k : ByteArray) (v : SlT) (d : Int) (k2 : ByteArray) (v2 : SlT) (d2 : Int) (w : World) (hB : Blk w b 89 #[.string k, .slice v.a v.n v.c, .int .i64 d, pt c 0, (ptT r)]) (hC : Blk w c 89 #[.string k2, .slice v2.a v2.n v2.c, .int .i64 d2, (ptT ll), (ptT lr)]) (hll : TreeAt w ll) (hlr : TreeAt w lr) (hr : TreeAt w r) (hnebc : b ≠ c) (n_b_ll : b ∉ bk ll) (n_b_lr : b ∉ bk lr) (n_b_r : b ∉ bk r) (n_c_ll : c ∉ bk ll) (n_c_lr : c ∉ bk lr) (n_c_r : c ∉ bk r) (hdll : 0 ≤ dp ll ∧ dp ll ≤ 900000) (hdlr : 0 ≤ dp lr ∧ dp lr ≤ 900000) (hdr : 0 ≤ dp r ∧ dp r ≤ 900000) (hd2 : 0 ≤ d2 ∧ d2 ≤ 900000) (hdif : d2 - dp r = 2) (hcmp : ¬ (dp ll < dp lr)) :
    Calls Try.prog 53 #[pt b 0] w fun e w' => e = .returned (pt c 0) ∧ Blk w' b 89 #[.string k, .slice v.a v.n v.c, .int .i64 (1 + mx (dp lr) (dp r)), ptT lr, ptT r] ∧ Blk w' c 89 #[.string k2, .slice v2.a v2.n v2.c, .int .i64 (1 + mx (dp ll) (1 + mx (dp lr) (dp r))), ptT ll, pt b 0] ∧ TreeAt w' ll ∧ TreeAt w' lr ∧ TreeAt w' r ∧ But (fun q => q = b ∨ q = c) w w' := by
 have hB0 := But.refl (fun q => q = b ∨ q = c) w
 have hl_hB := hB.lt
 have hl_hC := hC.lt
 have hSb : (fun q => q = b ∨ q = c) b ∨ w.heap.size ≤ b := .inl (by simp)
 have hSc : (fun q => q = b ∨ q = c) c ∨ w.heap.size ≤ c := .inl (by simp)
 refine co_enter (n := 75) Try.func53 rfl rfl rfl [(0, pt b 0)] rfl (fun a h0 => ?_)
 refine co_seq ?_
 refine co_reg ?_
 refine pk0 (v := .pointer none) h0 rfl fun a1 h1 => ?_; clear h0
 refine pl_nil ?_
 refine co_then ?_
 refine co_seq ?_
 refine co_seq ?_
 refine dr_gen (fun x => But (fun q => q = b ∨ q = c) w x ∧ Blk x b 89 #[.string k, .slice v.a v.n v.c, .int .i64 d, pt c 0, (ptT r)]) (by kernel_rfl) (fun w2 hg3 => ?_) (fun w2 hg3 => ?_)
 ·
  have hz4 := hg3.size
  have hB5 := fbU_new hB0 hg3
  have hk6 := hB.kept hg3 (by simp)
  exact ⟨hB5, hk6⟩
 have hz7 := hg3.size
 have hB8 := fbU_new hB0 hg3
 have hk9 := hB.kept hg3 (by simp)
 refine dk0 0 (v := pt b 0) h1 rfl rfl ⟨hB8, hk9⟩ fun a10 h10 => ?_; clear h1
 refine dk0 1 (v := pt b 0) h10 rfl rfl ⟨hB8, hk9⟩ fun a11 h11 => ?_; clear h10
 refine dk0 2 (v := pt b 3) h11 rfl rfl ⟨hB8, hk9⟩ fun a12 h12 => ?_; clear h11
 refine dk 3 (v := pt c 0) h12 rfl rfl ⟨hB8, hk9⟩ (fun x hx => (rn_load1 rfl rfl Try.isAgg84 (hx.2.cell rfl))) fun a13 h13 => ?_; clear h12
 refine dk0 5 (v := pt b 0) h13 rfl rfl ⟨hB8, hk9⟩ fun a14 h14 => ?_; clear h13
 refine dk0 6 (v := pt b 0) h14 rfl rfl ⟨hB8, hk9⟩ fun a15 h15 => ?_; clear h14
 refine dk0 7 (v := pt b 4) h15 rfl rfl ⟨hB8, hk9⟩ fun a16 h16 => ?_; clear h15
 refine dk 8 (v := (ptT r)) h16 rfl rfl ⟨hB8, hk9⟩ (fun x hx => (rn_load1 rfl rfl Try.isAgg84 (hx.2.cell rfl))) fun a17 h17 => ?_; clear h16
 have hk20 := hC.kept hg3 (by simp)
 refine d1 4 h17 rfl rfl (op_call (args := #[pt c 0]) (R := fun res xw => res = .int .i64 d2 ∧ w2 = xw) rfl rfl rfl (by kernel_rfl) (by kernel_rfl) (Try.call59 _ _) (deep_blk w2 hk20) (by rintro e x ⟨rfl, rfl⟩; exact ⟨_, rfl, rfl, rfl⟩)) ?_ ?_; clear h17
 ·
  rintro _ _ ⟨rfl, rfl⟩
  exact ⟨hB8, hk9⟩
 rintro _ _ a18 ⟨rfl, rfl⟩ h18
 have hT23 := hr.gr hg3 (fun q e => by cases e)
 refine d1 9 h18 rfl rfl (op_call (args := #[(ptT r)]) (R := fun res xw => res = .int .i64 (dp r) ∧ w2 = xw) rfl rfl rfl (by kernel_rfl) (by kernel_rfl) (Try.call59 _ _) (deep_any r w2 hT23) (by rintro e x ⟨rfl, rfl⟩; exact ⟨_, rfl, rfl, rfl⟩)) ?_ ?_; clear h18
 ·
  rintro _ _ ⟨rfl, rfl⟩
  exact ⟨hB8, hk9⟩
 rintro _ _ a21 ⟨rfl, rfl⟩ h21
 refine dk 10 (v := .int .i64 (d2 - (dp r))) h21 rfl rfl ⟨hB8, hk9⟩ (fun x hx => (rn_arith rfl rfl rfl rfl rfl rfl (IntWalk.i64_in _ (by omega)))) fun a24 h24 => ?_; clear h21
 refine dr_done (by kernel_rfl) ?_
 refine co_then ?_
 refine wp_block ?_
 refine co_seq ?_
 refine co_reg ?_
 refine pk0 (v := .bool (d2 - (dp r) == 2)) h24 rfl fun a25 h25 => ?_; clear h24
 refine pk0 (v := .bool (d2 - (dp r) == 2)) h25 rfl fun a26 h26 => ?_; clear h25
 refine pl_nil ?_
 refine co_then ?_
 have hc27 : (d2 - (dp r) == 2) = true := by first | (simp; done) | (simp; omega) | exact beq_false_of_ne (by omega) | exact beq_iff_eq.2 (by omega)
 rw [hc27] at h26; clear hc27
 refine co_true h26 rfl ?_
 refine co_seq ?_
 refine co_seq ?_
 refine dr_gen (fun x => But (fun q => q = b ∨ q = c) w x ∧ Blk x b 89 #[.string k, .slice v.a v.n v.c, .int .i64 d, pt c 0, (ptT r)] ∧ Blk x c 89 #[.string k2, .slice v2.a v2.n v2.c, .int .i64 d2, (ptT ll), (ptT lr)]) (by kernel_rfl) (fun w28 hg29 => ?_) (fun w28 hg29 => ?_)
 ·
  have hz30 := hg29.size
  have hB31 := fbU_new hB8 hg29
  have hk32 := hk9.kept hg29 (by simp)
  have hk33 := hk20.kept hg29 (by simp)
  exact ⟨hB31, hk32, hk33⟩
 have hz34 := hg29.size
 have hB35 := fbU_new hB8 hg29
 have hk36 := hk9.kept hg29 (by simp)
 have hk37 := hk20.kept hg29 (by simp)
 refine dk0 0 (v := pt b 0) h26 rfl rfl ⟨hB35, hk36, hk37⟩ fun a38 h38 => ?_; clear h26
 refine dk0 1 (v := pt b 0) h38 rfl rfl ⟨hB35, hk36, hk37⟩ fun a39 h39 => ?_; clear h38
 refine dk0 2 (v := pt b 3) h39 rfl rfl ⟨hB35, hk36, hk37⟩ fun a40 h40 => ?_; clear h39
 refine dk 3 (v := pt c 0) h40 rfl rfl ⟨hB35, hk36, hk37⟩ (fun x hx => (rn_load1 rfl rfl Try.isAgg84 (hx.2.1.cell rfl))) fun a41 h41 => ?_; clear h40
 refine dk0 4 (v := pt c 0) h41 rfl rfl ⟨hB35, hk36, hk37⟩ fun a42 h42 => ?_; clear h41
 refine dk0 5 (v := pt c 3) h42 rfl rfl ⟨hB35, hk36, hk37⟩ fun a43 h43 => ?_; clear h42
 refine dk 6 (v := (ptT ll)) h43 rfl rfl ⟨hB35, hk36, hk37⟩ (fun x hx => (rn_load1 rfl rfl Try.isAgg84 (hx.2.2.cell rfl))) fun a44 h44 => ?_; clear h43
 refine dk0 8 (v := pt b 0) h44 rfl rfl ⟨hB35, hk36, hk37⟩ fun a45 h45 => ?_; clear h44
 refine dk0 9 (v := pt b 0) h45 rfl rfl ⟨hB35, hk36, hk37⟩ fun a46 h46 => ?_; clear h45
 refine dk0 10 (v := pt b 3) h46 rfl rfl ⟨hB35, hk36, hk37⟩ fun a47 h47 => ?_; clear h46
 refine dk 11 (v := pt c 0) h47 rfl rfl ⟨hB35, hk36, hk37⟩ (fun x hx => (rn_load1 rfl rfl Try.isAgg84 (hx.2.1.cell rfl))) fun a48 h48 => ?_; clear h47
 refine dk0 12 (v := pt c 0) h48 rfl rfl ⟨hB35, hk36, hk37⟩ fun a49 h49 => ?_; clear h48
 refine dk0 13 (v := pt c 4) h49 rfl rfl ⟨hB35, hk36, hk37⟩ fun a50 h50 => ?_; clear h49
 refine dk 14 (v := (ptT lr)) h50 rfl rfl ⟨hB35, hk36, hk37⟩ (fun x hx => (rn_load1 rfl rfl Try.isAgg84 (hx.2.2.cell rfl))) fun a51 h51 => ?_; clear h50
 have hT54 := hll.gr hg3 (fun q e => by cases e)
 have hT55 := hT54.gr hg29 (fun q e => by cases e)
 refine d1 7 h51 rfl rfl (op_call (args := #[(ptT ll)]) (R := fun res xw => res = .int .i64 (dp ll) ∧ w28 = xw) rfl rfl rfl (by kernel_rfl) (by kernel_rfl) (Try.call59 _ _) (deep_any ll w28 hT55) (by rintro e x ⟨rfl, rfl⟩; exact ⟨_, rfl, rfl, rfl⟩)) ?_ ?_; clear h51
 ·
  rintro _ _ ⟨rfl, rfl⟩
  exact ⟨hB35, hk36, hk37⟩
 rintro _ _ a52 ⟨rfl, rfl⟩ h52
 have hT58 := hlr.gr hg3 (fun q e => by cases e)
 have hT59 := hT58.gr hg29 (fun q e => by cases e)
 refine d1 15 h52 rfl rfl (op_call (args := #[(ptT lr)]) (R := fun res xw => res = .int .i64 (dp lr) ∧ w28 = xw) rfl rfl rfl (by kernel_rfl) (by kernel_rfl) (Try.call59 _ _) (deep_any lr w28 hT59) (by rintro e x ⟨rfl, rfl⟩; exact ⟨_, rfl, rfl, rfl⟩)) ?_ ?_; clear h52
 ·
  rintro _ _ ⟨rfl, rfl⟩
  exact ⟨hB35, hk36, hk37⟩
 rintro _ _ a56 ⟨rfl, rfl⟩ h56
 refine dk0 16 (v := .bool (decide (dp ll < dp lr))) h56 rfl rfl ⟨hB35, hk36, hk37⟩ fun a60 h60 => ?_; clear h56
 refine dr_done (by kernel_rfl) ?_
 refine co_then ?_
 have hc61 : (decide (dp ll < dp lr)) = false := decide_eq_false (by omega)
 rw [hc61] at h60; clear hc61
 refine co_false h60 rfl ?_
 refine wp_skip ?_
 refine co_then ?_
 refine co_seq ?_
 refine co_reg ?_
 refine pk0 (v := pt b 0) h60 rfl fun a62 h62 => ?_; clear h60
 have hT65 := hT23.gr hg29 (fun q e => by cases e)
 refine pw h62 rfl (op_call (args := #[pt b 0]) (R := fun res xw => res = pt c 0 ∧ Blk xw b 89 #[.string k, .slice v.a v.n v.c, .int .i64 (1 + mx (dp lr) (dp r)), (ptT lr), (ptT r)] ∧ Blk xw c 89 #[.string k2, .slice v2.a v2.n v2.c, .int .i64 (1 + mx (dp ll) (1 + mx (dp lr) (dp r))), (ptT ll), pt b 0] ∧ But (fun q => q = b ∨ q = c) w28 xw) rfl rfl rfl (by kernel_rfl) (by kernel_rfl) (Try.call61 _ _) (upL_any b c ll k2 v2 d2 lr k v d r w28 hk36 hk37 hT55 hT59 hT65 hnebc n_b_ll n_b_lr n_b_r n_c_ll n_c_lr n_c_r (show 0 ≤ (dp ll) ∧ (dp ll) ≤ 990000 from ⟨by omega, by omega⟩) (show 0 ≤ (dp lr) ∧ (dp lr) ≤ 990000 from ⟨by omega, by omega⟩) (show 0 ≤ (dp r) ∧ (dp r) ≤ 990000 from ⟨by omega, by omega⟩)) (by rintro e x ⟨rfl, h1, h2, h3⟩; exact ⟨_, rfl, rfl, h1, h2, h3⟩)) ?_; clear h62
 rintro _ w64 a63 ⟨rfl, hq66, hq67, hb68⟩ h63
 obtain ⟨d69, hd70⟩ : ∃ z : Int, z = 1 + mx (dp lr) (dp r) := ⟨_, rfl⟩; rw [← hd70] at hq66 hq67
 have hd70b := mx_bd3 (a := (dp lr)) (b := (dp r))
 obtain ⟨d71, hd72⟩ : ∃ z : Int, z = 1 + mx (dp ll) d69 := ⟨_, rfl⟩; rw [← hd72] at hq67
 have hd72b := mx_bd3 (a := (dp ll)) (b := d69)
 have hB73 := fbU_foot hB35 hb68 (fun i hi hS => by rcases hS with rfl | rfl <;> simp)
 have hz74 := hb68.size
 refine pk0 (v := pt c 0) h63 rfl fun a75 h75 => ?_; clear h63
 refine pl_nil ?_
 refine co_then ?_
 refine wp_ret ?_
 refine co_blockR ?_
 refine co_thenR ?_
 refine co_ret1 h75 rfl rfl ?_
 have hT76 := TreeAt.but hT55 hb68 (fun q hq => fun hq2 => by rcases hq2 with hq2 | hq2; exact (fun e : q = b => n_b_ll (e ▸ hq)) hq2; exact (fun e : q = c => n_c_ll (e ▸ hq)) hq2)
 have hT77 := TreeAt.but hT59 hb68 (fun q hq => fun hq2 => by rcases hq2 with hq2 | hq2; exact (fun e : q = b => n_b_lr (e ▸ hq)) hq2; exact (fun e : q = c => n_c_lr (e ▸ hq)) hq2)
 have hT78 := TreeAt.but hT65 hb68 (fun q hq => fun hq2 => by rcases hq2 with hq2 | hq2; exact (fun e : q = b => n_b_r (e ▸ hq)) hq2; exact (fun e : q = c => n_c_r (e ▸ hq)) hq2)
 subst hd70
 subst hd72
 exact ⟨rfl, hq66, hq67, hT76, hT77, hT78, hB73⟩
set_option maxRecDepth 100000 in
theorem balB_any (b : Nat) (c : Nat) (g : Nat) (ll : Tm) (el : Tm) (er : Tm) (r : Tm) (k : ByteArray) (v : SlT) (d : Int) (k2 : ByteArray) (v2 : SlT) (d2 : Int) (k3 : ByteArray) (v3 : SlT) (d3 : Int) (w : World) (hB : Blk w b 89 #[.string k, .slice v.a v.n v.c, .int .i64 d, pt c 0, (ptT r)]) (hC : Blk w c 89 #[.string k2, .slice v2.a v2.n v2.c, .int .i64 d2, (ptT ll), pt g 0]) (hE : Blk w g 89 #[.string k3, .slice v3.a v3.n v3.c, .int .i64 d3, (ptT el), (ptT er)]) (hll : TreeAt w ll) (hel : TreeAt w el) (her : TreeAt w er) (hr : TreeAt w r) (hnebc : b ≠ c) (hnebg : b ≠ g) (hnecg : c ≠ g) (n_b_ll : b ∉ bk ll) (n_b_el : b ∉ bk el) (n_b_er : b ∉ bk er) (n_b_r : b ∉ bk r) (n_c_ll : c ∉ bk ll) (n_c_el : c ∉ bk el) (n_c_er : c ∉ bk er) (n_c_r : c ∉ bk r) (n_g_ll : g ∉ bk ll) (n_g_el : g ∉ bk el) (n_g_er : g ∉ bk er) (n_g_r : g ∉ bk r) (hdll : 0 ≤ dp ll ∧ dp ll ≤ 900000) (hdel : 0 ≤ dp el ∧ dp el ≤ 900000) (hder : 0 ≤ dp er ∧ dp er ≤ 900000) (hdr : 0 ≤ dp r ∧ dp r ≤ 900000) (hd2 : 0 ≤ d2 ∧ d2 ≤ 900000) (hd3 : 0 ≤ d3 ∧ d3 ≤ 900000) (hdif : d2 - dp r = 2) (hcmp : dp ll < d3) :
    Calls Try.prog 53 #[pt b 0] w fun e w' => e = .returned (pt g 0) ∧ Blk w' b 89 #[.string k, .slice v.a v.n v.c, .int .i64 (1 + mx (dp er) (dp r)), ptT er, ptT r] ∧ Blk w' c 89 #[.string k2, .slice v2.a v2.n v2.c, .int .i64 (1 + mx (dp ll) (dp el)), ptT ll, ptT el] ∧ Blk w' g 89 #[.string k3, .slice v3.a v3.n v3.c, .int .i64 (1 + mx (1 + mx (dp ll) (dp el)) (1 + mx (dp er) (dp r))), pt c 0, pt b 0] ∧ TreeAt w' ll ∧ TreeAt w' el ∧ TreeAt w' er ∧ TreeAt w' r ∧ But (fun q => q = b ∨ q = c ∨ q = g) w w' := by
 have hB0 := But.refl (fun q => q = b ∨ q = c ∨ q = g) w
 have hl_hB := hB.lt
 have hl_hC := hC.lt
 have hl_hE := hE.lt
 have hSb : (fun q => q = b ∨ q = c ∨ q = g) b ∨ w.heap.size ≤ b := .inl (by simp)
 have hSc : (fun q => q = b ∨ q = c ∨ q = g) c ∨ w.heap.size ≤ c := .inl (by simp)
 have hSg : (fun q => q = b ∨ q = c ∨ q = g) g ∨ w.heap.size ≤ g := .inl (by simp)
 refine co_enter (n := 75) Try.func53 rfl rfl rfl [(0, pt b 0)] rfl (fun a h0 => ?_)
 refine co_seq ?_
 refine co_reg ?_
 refine pk0 (v := .pointer none) h0 rfl fun a1 h1 => ?_; clear h0
 refine pl_nil ?_
 refine co_then ?_
 refine co_seq ?_
 refine co_seq ?_
 refine dr_gen (fun x => But (fun q => q = b ∨ q = c ∨ q = g) w x ∧ Blk x b 89 #[.string k, .slice v.a v.n v.c, .int .i64 d, pt c 0, (ptT r)]) (by kernel_rfl) (fun w2 hg3 => ?_) (fun w2 hg3 => ?_)
 ·
  have hz4 := hg3.size
  have hB5 := fbU_new hB0 hg3
  have hk6 := hB.kept hg3 (by simp)
  exact ⟨hB5, hk6⟩
 have hz7 := hg3.size
 have hB8 := fbU_new hB0 hg3
 have hk9 := hB.kept hg3 (by simp)
 refine dk0 0 (v := pt b 0) h1 rfl rfl ⟨hB8, hk9⟩ fun a10 h10 => ?_; clear h1
 refine dk0 1 (v := pt b 0) h10 rfl rfl ⟨hB8, hk9⟩ fun a11 h11 => ?_; clear h10
 refine dk0 2 (v := pt b 3) h11 rfl rfl ⟨hB8, hk9⟩ fun a12 h12 => ?_; clear h11
 refine dk 3 (v := pt c 0) h12 rfl rfl ⟨hB8, hk9⟩ (fun x hx => (rn_load1 rfl rfl Try.isAgg84 (hx.2.cell rfl))) fun a13 h13 => ?_; clear h12
 refine dk0 5 (v := pt b 0) h13 rfl rfl ⟨hB8, hk9⟩ fun a14 h14 => ?_; clear h13
 refine dk0 6 (v := pt b 0) h14 rfl rfl ⟨hB8, hk9⟩ fun a15 h15 => ?_; clear h14
 refine dk0 7 (v := pt b 4) h15 rfl rfl ⟨hB8, hk9⟩ fun a16 h16 => ?_; clear h15
 refine dk 8 (v := (ptT r)) h16 rfl rfl ⟨hB8, hk9⟩ (fun x hx => (rn_load1 rfl rfl Try.isAgg84 (hx.2.cell rfl))) fun a17 h17 => ?_; clear h16
 have hk20 := hC.kept hg3 (by simp)
 refine d1 4 h17 rfl rfl (op_call (args := #[pt c 0]) (R := fun res xw => res = .int .i64 d2 ∧ w2 = xw) rfl rfl rfl (by kernel_rfl) (by kernel_rfl) (Try.call59 _ _) (deep_blk w2 hk20) (by rintro e x ⟨rfl, rfl⟩; exact ⟨_, rfl, rfl, rfl⟩)) ?_ ?_; clear h17
 ·
  rintro _ _ ⟨rfl, rfl⟩
  exact ⟨hB8, hk9⟩
 rintro _ _ a18 ⟨rfl, rfl⟩ h18
 have hT23 := hr.gr hg3 (fun q e => by cases e)
 refine d1 9 h18 rfl rfl (op_call (args := #[(ptT r)]) (R := fun res xw => res = .int .i64 (dp r) ∧ w2 = xw) rfl rfl rfl (by kernel_rfl) (by kernel_rfl) (Try.call59 _ _) (deep_any r w2 hT23) (by rintro e x ⟨rfl, rfl⟩; exact ⟨_, rfl, rfl, rfl⟩)) ?_ ?_; clear h18
 ·
  rintro _ _ ⟨rfl, rfl⟩
  exact ⟨hB8, hk9⟩
 rintro _ _ a21 ⟨rfl, rfl⟩ h21
 refine dk 10 (v := .int .i64 (d2 - (dp r))) h21 rfl rfl ⟨hB8, hk9⟩ (fun x hx => (rn_arith rfl rfl rfl rfl rfl rfl (IntWalk.i64_in _ (by omega)))) fun a24 h24 => ?_; clear h21
 refine dr_done (by kernel_rfl) ?_
 refine co_then ?_
 refine wp_block ?_
 refine co_seq ?_
 refine co_reg ?_
 refine pk0 (v := .bool (d2 - (dp r) == 2)) h24 rfl fun a25 h25 => ?_; clear h24
 refine pk0 (v := .bool (d2 - (dp r) == 2)) h25 rfl fun a26 h26 => ?_; clear h25
 refine pl_nil ?_
 refine co_then ?_
 have hc27 : (d2 - (dp r) == 2) = true := by first | (simp; done) | (simp; omega) | exact beq_false_of_ne (by omega) | exact beq_iff_eq.2 (by omega)
 rw [hc27] at h26; clear hc27
 refine co_true h26 rfl ?_
 refine co_seq ?_
 refine co_seq ?_
 refine dr_gen (fun x => But (fun q => q = b ∨ q = c ∨ q = g) w x ∧ Blk x b 89 #[.string k, .slice v.a v.n v.c, .int .i64 d, pt c 0, (ptT r)] ∧ Blk x c 89 #[.string k2, .slice v2.a v2.n v2.c, .int .i64 d2, (ptT ll), pt g 0]) (by kernel_rfl) (fun w28 hg29 => ?_) (fun w28 hg29 => ?_)
 ·
  have hz30 := hg29.size
  have hB31 := fbU_new hB8 hg29
  have hk32 := hk9.kept hg29 (by simp)
  have hk33 := hk20.kept hg29 (by simp)
  exact ⟨hB31, hk32, hk33⟩
 have hz34 := hg29.size
 have hB35 := fbU_new hB8 hg29
 have hk36 := hk9.kept hg29 (by simp)
 have hk37 := hk20.kept hg29 (by simp)
 refine dk0 0 (v := pt b 0) h26 rfl rfl ⟨hB35, hk36, hk37⟩ fun a38 h38 => ?_; clear h26
 refine dk0 1 (v := pt b 0) h38 rfl rfl ⟨hB35, hk36, hk37⟩ fun a39 h39 => ?_; clear h38
 refine dk0 2 (v := pt b 3) h39 rfl rfl ⟨hB35, hk36, hk37⟩ fun a40 h40 => ?_; clear h39
 refine dk 3 (v := pt c 0) h40 rfl rfl ⟨hB35, hk36, hk37⟩ (fun x hx => (rn_load1 rfl rfl Try.isAgg84 (hx.2.1.cell rfl))) fun a41 h41 => ?_; clear h40
 refine dk0 4 (v := pt c 0) h41 rfl rfl ⟨hB35, hk36, hk37⟩ fun a42 h42 => ?_; clear h41
 refine dk0 5 (v := pt c 3) h42 rfl rfl ⟨hB35, hk36, hk37⟩ fun a43 h43 => ?_; clear h42
 refine dk 6 (v := (ptT ll)) h43 rfl rfl ⟨hB35, hk36, hk37⟩ (fun x hx => (rn_load1 rfl rfl Try.isAgg84 (hx.2.2.cell rfl))) fun a44 h44 => ?_; clear h43
 refine dk0 8 (v := pt b 0) h44 rfl rfl ⟨hB35, hk36, hk37⟩ fun a45 h45 => ?_; clear h44
 refine dk0 9 (v := pt b 0) h45 rfl rfl ⟨hB35, hk36, hk37⟩ fun a46 h46 => ?_; clear h45
 refine dk0 10 (v := pt b 3) h46 rfl rfl ⟨hB35, hk36, hk37⟩ fun a47 h47 => ?_; clear h46
 refine dk 11 (v := pt c 0) h47 rfl rfl ⟨hB35, hk36, hk37⟩ (fun x hx => (rn_load1 rfl rfl Try.isAgg84 (hx.2.1.cell rfl))) fun a48 h48 => ?_; clear h47
 refine dk0 12 (v := pt c 0) h48 rfl rfl ⟨hB35, hk36, hk37⟩ fun a49 h49 => ?_; clear h48
 refine dk0 13 (v := pt c 4) h49 rfl rfl ⟨hB35, hk36, hk37⟩ fun a50 h50 => ?_; clear h49
 refine dk 14 (v := pt g 0) h50 rfl rfl ⟨hB35, hk36, hk37⟩ (fun x hx => (rn_load1 rfl rfl Try.isAgg84 (hx.2.2.cell rfl))) fun a51 h51 => ?_; clear h50
 have hT54 := hll.gr hg3 (fun q e => by cases e)
 have hT55 := hT54.gr hg29 (fun q e => by cases e)
 refine d1 7 h51 rfl rfl (op_call (args := #[(ptT ll)]) (R := fun res xw => res = .int .i64 (dp ll) ∧ w28 = xw) rfl rfl rfl (by kernel_rfl) (by kernel_rfl) (Try.call59 _ _) (deep_any ll w28 hT55) (by rintro e x ⟨rfl, rfl⟩; exact ⟨_, rfl, rfl, rfl⟩)) ?_ ?_; clear h51
 ·
  rintro _ _ ⟨rfl, rfl⟩
  exact ⟨hB35, hk36, hk37⟩
 rintro _ _ a52 ⟨rfl, rfl⟩ h52
 have hk58 := hE.kept hg3 (by simp)
 have hk59 := hk58.kept hg29 (by simp)
 refine d1 15 h52 rfl rfl (op_call (args := #[pt g 0]) (R := fun res xw => res = .int .i64 d3 ∧ w28 = xw) rfl rfl rfl (by kernel_rfl) (by kernel_rfl) (Try.call59 _ _) (deep_blk w28 hk59) (by rintro e x ⟨rfl, rfl⟩; exact ⟨_, rfl, rfl, rfl⟩)) ?_ ?_; clear h52
 ·
  rintro _ _ ⟨rfl, rfl⟩
  exact ⟨hB35, hk36, hk37⟩
 rintro _ _ a56 ⟨rfl, rfl⟩ h56
 refine dk0 16 (v := .bool (decide (dp ll < d3))) h56 rfl rfl ⟨hB35, hk36, hk37⟩ fun a60 h60 => ?_; clear h56
 refine dr_done (by kernel_rfl) ?_
 refine co_then ?_
 have hc61 : (decide (dp ll < d3)) = true := decide_eq_true (by omega)
 rw [hc61] at h60; clear hc61
 refine co_true h60 rfl ?_
 refine co_reg ?_
 refine pk0 (v := pt b 0) h60 rfl fun a62 h62 => ?_; clear h60
 refine pk0 (v := pt b 0) h62 rfl fun a63 h63 => ?_; clear h62
 refine pk0 (v := pt b 0) h63 rfl fun a64 h64 => ?_; clear h63
 refine pk0 (v := pt b 3) h64 rfl fun a65 h65 => ?_; clear h64
 refine pk (v := pt c 0) h65 rfl (rn_load1 rfl rfl Try.isAgg84 (hk36.cell rfl)) fun a66 h66 => ?_; clear h65
 have hT69 := hel.gr hg3 (fun q e => by cases e)
 have hT70 := hT69.gr hg29 (fun q e => by cases e)
 have hT71 := her.gr hg3 (fun q e => by cases e)
 have hT72 := hT71.gr hg29 (fun q e => by cases e)
 refine pw h66 rfl (op_call (args := #[pt c 0]) (R := fun res xw => res = pt g 0 ∧ Blk xw c 89 #[.string k2, .slice v2.a v2.n v2.c, .int .i64 (1 + mx (dp ll) (dp el)), (ptT ll), (ptT el)] ∧ Blk xw g 89 #[.string k3, .slice v3.a v3.n v3.c, .int .i64 (1 + mx (1 + mx (dp ll) (dp el)) (dp er)), pt c 0, (ptT er)] ∧ But (fun q => q = c ∨ q = g) w28 xw) rfl rfl rfl (by kernel_rfl) (by kernel_rfl) (Try.call60 _ _) (upR_any c g er k3 v3 d3 el k2 v2 d2 ll w28 hk37 hk59 hT72 hT70 hT55 hnecg n_c_er n_c_el n_c_ll n_g_er n_g_el n_g_ll (show 0 ≤ (dp er) ∧ (dp er) ≤ 990000 from ⟨by omega, by omega⟩) (show 0 ≤ (dp el) ∧ (dp el) ≤ 990000 from ⟨by omega, by omega⟩) (show 0 ≤ (dp ll) ∧ (dp ll) ≤ 990000 from ⟨by omega, by omega⟩)) (by rintro e x ⟨rfl, h1, h2, h3⟩; exact ⟨_, rfl, rfl, h1, h2, h3⟩)) ?_; clear h66
 rintro _ w68 a67 ⟨rfl, hq73, hq74, hb75⟩ h67
 obtain ⟨d76, hd77⟩ : ∃ z : Int, z = 1 + mx (dp ll) (dp el) := ⟨_, rfl⟩; rw [← hd77] at hq73 hq74
 have hd77b := mx_bd3 (a := (dp ll)) (b := (dp el))
 obtain ⟨d78, hd79⟩ : ∃ z : Int, z = 1 + mx d76 (dp er) := ⟨_, rfl⟩; rw [← hd79] at hq74
 have hd79b := mx_bd3 (a := d76) (b := (dp er))
 have hB80 := fbU_foot hB35 hb75 (fun i hi hS => by rcases hS with rfl | rfl <;> simp)
 have hz81 := hb75.size
 refine pk0 (v := pt b 0) h67 rfl fun a82 h82 => ?_; clear h67
 refine pk0 (v := pt b 3) h82 rfl fun a83 h83 => ?_; clear h82
 have hk89 := Blk.butS hk36 hb75 (fun hq => by rcases hq with hq | hq; exact absurd hq hnebc; exact absurd hq hnebg)
 refine pwD h83 rfl (op_store1 rfl rfl rfl rfl Try.sizeOf84 hk89 rfl) ?_; clear h83
 rintro _ w85 a84 ⟨hk86, hz87, hg88⟩ h84
 have hk86' : Blk w85 b 89 #[.string k, .slice v.a v.n v.c, .int .i64 d, pt g 0, (ptT r)] := hk86; clear hk86
 have hz90 := hg88.size
 refine pl_nil ?_
 refine co_then ?_
 refine co_seq ?_
 refine co_reg ?_
 refine pk0 (v := pt b 0) h84 rfl fun a91 h91 => ?_; clear h84
 have hB94 := fbU_at hB80 hg88 (fun hlt => by rcases hSb with hq | hq; exact hq; omega)
 have hT95 := TreeAt.but hT55 hb75 (fun q hq => fun hq2 => by rcases hq2 with hq2 | hq2; exact (fun e : q = c => n_c_ll (e ▸ hq)) hq2; exact (fun e : q = g => n_g_ll (e ▸ hq)) hq2)
 have hT96 := hT95.gr hg88 (fun q e => by cases e; exact n_b_ll)
 have hT97 := TreeAt.but hT70 hb75 (fun q hq => fun hq2 => by rcases hq2 with hq2 | hq2; exact (fun e : q = c => n_c_el (e ▸ hq)) hq2; exact (fun e : q = g => n_g_el (e ▸ hq)) hq2)
 have hT98 := hT97.gr hg88 (fun q e => by cases e; exact n_b_el)
 have hT99 := TreeAt.but hT72 hb75 (fun q hq => fun hq2 => by rcases hq2 with hq2 | hq2; exact (fun e : q = c => n_c_er (e ▸ hq)) hq2; exact (fun e : q = g => n_g_er (e ▸ hq)) hq2)
 have hT100 := hT99.gr hg88 (fun q e => by cases e; exact n_b_er)
 have hT101 := hT23.gr hg29 (fun q e => by cases e)
 have hT102 := TreeAt.but hT101 hb75 (fun q hq => fun hq2 => by rcases hq2 with hq2 | hq2; exact (fun e : q = c => n_c_r (e ▸ hq)) hq2; exact (fun e : q = g => n_g_r (e ▸ hq)) hq2)
 have hT103 := hT102.gr hg88 (fun q e => by cases e; exact n_b_r)
 have hk104 := hq73.kept hg88 (by simp; omega)
 have hk112 := hq74.kept hg88 (by simp; omega)
 refine pw h91 rfl (op_call (args := #[pt b 0]) (R := fun res xw => res = pt g 0 ∧ Blk xw b 89 #[.string k, .slice v.a v.n v.c, .int .i64 (1 + mx (dp er) (dp r)), (ptT er), (ptT r)] ∧ Blk xw g 89 #[.string k3, .slice v3.a v3.n v3.c, .int .i64 (1 + mx d76 (1 + mx (dp er) (dp r))), pt c 0, pt b 0] ∧ But (fun q => q = b ∨ q = g) w85 xw) rfl rfl rfl (by kernel_rfl) (by kernel_rfl) (Try.call61 _ _) (upL_any b g (Tm.nd c ll k2 v2 d76 el) k3 v3 d78 er k v d r w85 hk86' hk112 ⟨hk104, hT96, hT98⟩ hT100 hT103 hnebg (nin_nd hnebc n_b_ll n_b_el) n_b_er n_b_r (nin_nd (Ne.symm hnecg) n_g_ll n_g_el) n_g_er n_g_r (show 0 ≤ d76 ∧ d76 ≤ 990000 from ⟨by omega, by omega⟩) (show 0 ≤ (dp er) ∧ (dp er) ≤ 990000 from ⟨by omega, by omega⟩) (show 0 ≤ (dp r) ∧ (dp r) ≤ 990000 from ⟨by omega, by omega⟩)) (by rintro e x ⟨rfl, h1, h2, h3⟩; exact ⟨_, rfl, rfl, h1, h2, h3⟩)) ?_; clear h91
 rintro _ w93 a92 ⟨rfl, hq105, hq106, hb107⟩ h92
 obtain ⟨d108, hd109⟩ : ∃ z : Int, z = 1 + mx (dp er) (dp r) := ⟨_, rfl⟩; rw [← hd109] at hq105 hq106
 have hd109b := mx_bd3 (a := (dp er)) (b := (dp r))
 obtain ⟨d110, hd111⟩ : ∃ z : Int, z = 1 + mx d76 d108 := ⟨_, rfl⟩; rw [← hd111] at hq106
 have hd111b := mx_bd3 (a := d76) (b := d108)
 have hB113 := fbU_foot hB94 hb107 (fun i hi hS => by rcases hS with rfl | rfl <;> simp)
 have hz114 := hb107.size
 refine pk0 (v := pt g 0) h92 rfl fun a115 h115 => ?_; clear h92
 refine pl_nil ?_
 refine co_then ?_
 refine wp_ret ?_
 refine co_blockR ?_
 refine co_thenR ?_
 refine co_ret1 h115 rfl rfl ?_
 have hk116 := Blk.butS hk104 hb107 (fun hq => by rcases hq with hq | hq; exact absurd hq (Ne.symm hnebc); exact absurd hq hnecg)
 have hT117 := TreeAt.but hT96 hb107 (fun q hq => fun hq2 => by rcases hq2 with hq2 | hq2; exact (fun e : q = b => n_b_ll (e ▸ hq)) hq2; exact (fun e : q = g => n_g_ll (e ▸ hq)) hq2)
 have hT118 := TreeAt.but hT98 hb107 (fun q hq => fun hq2 => by rcases hq2 with hq2 | hq2; exact (fun e : q = b => n_b_el (e ▸ hq)) hq2; exact (fun e : q = g => n_g_el (e ▸ hq)) hq2)
 have hT119 := TreeAt.but hT100 hb107 (fun q hq => fun hq2 => by rcases hq2 with hq2 | hq2; exact (fun e : q = b => n_b_er (e ▸ hq)) hq2; exact (fun e : q = g => n_g_er (e ▸ hq)) hq2)
 have hT120 := TreeAt.but hT103 hb107 (fun q hq => fun hq2 => by rcases hq2 with hq2 | hq2; exact (fun e : q = b => n_b_r (e ▸ hq)) hq2; exact (fun e : q = g => n_g_r (e ▸ hq)) hq2)
 subst hd109
 subst hd111
 subst hd77
 subst hd79
 exact ⟨rfl, hq105, hk116, hq106, hT117, hT118, hT119, hT120, hB113⟩
set_option maxRecDepth 100000 in
theorem balC_any (b : Nat) (c : Nat) (ll : Tm) (lr : Tm) (r : Tm) (k : ByteArray) (v : SlT) (d : Int) (k2 : ByteArray) (v2 : SlT) (d2 : Int) (w : World) (hB : Blk w b 89 #[.string k, .slice v.a v.n v.c, .int .i64 d, (ptT r), pt c 0]) (hC : Blk w c 89 #[.string k2, .slice v2.a v2.n v2.c, .int .i64 d2, (ptT lr), (ptT ll)]) (hll : TreeAt w ll) (hlr : TreeAt w lr) (hr : TreeAt w r) (hnebc : b ≠ c) (n_b_ll : b ∉ bk ll) (n_b_lr : b ∉ bk lr) (n_b_r : b ∉ bk r) (n_c_ll : c ∉ bk ll) (n_c_lr : c ∉ bk lr) (n_c_r : c ∉ bk r) (hdll : 0 ≤ dp ll ∧ dp ll ≤ 900000) (hdlr : 0 ≤ dp lr ∧ dp lr ≤ 900000) (hdr : 0 ≤ dp r ∧ dp r ≤ 900000) (hd2 : 0 ≤ d2 ∧ d2 ≤ 900000) (hdif : dp r - d2 = -2) (hcmp : ¬ (dp ll < dp lr)) :
    Calls Try.prog 53 #[pt b 0] w fun e w' => e = .returned (pt c 0) ∧ Blk w' b 89 #[.string k, .slice v.a v.n v.c, .int .i64 (1 + mx (dp r) (dp lr)), ptT r, ptT lr] ∧ Blk w' c 89 #[.string k2, .slice v2.a v2.n v2.c, .int .i64 (1 + mx (1 + mx (dp r) (dp lr)) (dp ll)), pt b 0, ptT ll] ∧ TreeAt w' ll ∧ TreeAt w' lr ∧ TreeAt w' r ∧ But (fun q => q = b ∨ q = c) w w' := by
 have hB0 := But.refl (fun q => q = b ∨ q = c) w
 have hl_hB := hB.lt
 have hl_hC := hC.lt
 have hSb : (fun q => q = b ∨ q = c) b ∨ w.heap.size ≤ b := .inl (by simp)
 have hSc : (fun q => q = b ∨ q = c) c ∨ w.heap.size ≤ c := .inl (by simp)
 refine co_enter (n := 75) Try.func53 rfl rfl rfl [(0, pt b 0)] rfl (fun a h0 => ?_)
 refine co_seq ?_
 refine co_reg ?_
 refine pk0 (v := .pointer none) h0 rfl fun a1 h1 => ?_; clear h0
 refine pl_nil ?_
 refine co_then ?_
 refine co_seq ?_
 refine co_seq ?_
 refine dr_gen (fun x => But (fun q => q = b ∨ q = c) w x ∧ Blk x b 89 #[.string k, .slice v.a v.n v.c, .int .i64 d, (ptT r), pt c 0]) (by kernel_rfl) (fun w2 hg3 => ?_) (fun w2 hg3 => ?_)
 ·
  have hz4 := hg3.size
  have hB5 := fbU_new hB0 hg3
  have hk6 := hB.kept hg3 (by simp)
  exact ⟨hB5, hk6⟩
 have hz7 := hg3.size
 have hB8 := fbU_new hB0 hg3
 have hk9 := hB.kept hg3 (by simp)
 refine dk0 0 (v := pt b 0) h1 rfl rfl ⟨hB8, hk9⟩ fun a10 h10 => ?_; clear h1
 refine dk0 1 (v := pt b 0) h10 rfl rfl ⟨hB8, hk9⟩ fun a11 h11 => ?_; clear h10
 refine dk0 2 (v := pt b 3) h11 rfl rfl ⟨hB8, hk9⟩ fun a12 h12 => ?_; clear h11
 refine dk 3 (v := (ptT r)) h12 rfl rfl ⟨hB8, hk9⟩ (fun x hx => (rn_load1 rfl rfl Try.isAgg84 (hx.2.cell rfl))) fun a13 h13 => ?_; clear h12
 refine dk0 5 (v := pt b 0) h13 rfl rfl ⟨hB8, hk9⟩ fun a14 h14 => ?_; clear h13
 refine dk0 6 (v := pt b 0) h14 rfl rfl ⟨hB8, hk9⟩ fun a15 h15 => ?_; clear h14
 refine dk0 7 (v := pt b 4) h15 rfl rfl ⟨hB8, hk9⟩ fun a16 h16 => ?_; clear h15
 refine dk 8 (v := pt c 0) h16 rfl rfl ⟨hB8, hk9⟩ (fun x hx => (rn_load1 rfl rfl Try.isAgg84 (hx.2.cell rfl))) fun a17 h17 => ?_; clear h16
 have hT20 := hr.gr hg3 (fun q e => by cases e)
 refine d1 4 h17 rfl rfl (op_call (args := #[(ptT r)]) (R := fun res xw => res = .int .i64 (dp r) ∧ w2 = xw) rfl rfl rfl (by kernel_rfl) (by kernel_rfl) (Try.call59 _ _) (deep_any r w2 hT20) (by rintro e x ⟨rfl, rfl⟩; exact ⟨_, rfl, rfl, rfl⟩)) ?_ ?_; clear h17
 ·
  rintro _ _ ⟨rfl, rfl⟩
  exact ⟨hB8, hk9⟩
 rintro _ _ a18 ⟨rfl, rfl⟩ h18
 have hk23 := hC.kept hg3 (by simp)
 refine d1 9 h18 rfl rfl (op_call (args := #[pt c 0]) (R := fun res xw => res = .int .i64 d2 ∧ w2 = xw) rfl rfl rfl (by kernel_rfl) (by kernel_rfl) (Try.call59 _ _) (deep_blk w2 hk23) (by rintro e x ⟨rfl, rfl⟩; exact ⟨_, rfl, rfl, rfl⟩)) ?_ ?_; clear h18
 ·
  rintro _ _ ⟨rfl, rfl⟩
  exact ⟨hB8, hk9⟩
 rintro _ _ a21 ⟨rfl, rfl⟩ h21
 refine dk 10 (v := .int .i64 ((dp r) - d2)) h21 rfl rfl ⟨hB8, hk9⟩ (fun x hx => (rn_arith rfl rfl rfl rfl rfl rfl (IntWalk.i64_in _ (by omega)))) fun a24 h24 => ?_; clear h21
 refine dr_done (by kernel_rfl) ?_
 refine co_then ?_
 refine wp_block ?_
 refine co_seq ?_
 refine co_reg ?_
 refine pk0 (v := .bool ((dp r) - d2 == 2)) h24 rfl fun a25 h25 => ?_; clear h24
 refine pk0 (v := .bool ((dp r) - d2 == 2)) h25 rfl fun a26 h26 => ?_; clear h25
 refine pl_nil ?_
 refine co_then ?_
 have hc27 : ((dp r) - d2 == 2) = false := by first | (simp; done) | (simp; omega) | exact beq_false_of_ne (by omega) | exact beq_iff_eq.2 (by omega)
 rw [hc27] at h26; clear hc27
 refine co_false h26 rfl ?_
 refine co_seq ?_
 refine co_reg ?_
 refine pk0 (v := .bool ((dp r) - d2 == (-2))) h26 rfl fun a28 h28 => ?_; clear h26
 refine pk0 (v := .bool ((dp r) - d2 == (-2))) h28 rfl fun a29 h29 => ?_; clear h28
 refine pl_nil ?_
 refine co_then ?_
 have hc30 : ((dp r) - d2 == (-2)) = true := by first | (simp; done) | (simp; omega) | exact beq_false_of_ne (by omega) | exact beq_iff_eq.2 (by omega)
 rw [hc30] at h29; clear hc30
 refine co_true h29 rfl ?_
 refine co_seq ?_
 refine co_seq ?_
 refine dr_gen (fun x => But (fun q => q = b ∨ q = c) w x ∧ Blk x b 89 #[.string k, .slice v.a v.n v.c, .int .i64 d, (ptT r), pt c 0] ∧ Blk x c 89 #[.string k2, .slice v2.a v2.n v2.c, .int .i64 d2, (ptT lr), (ptT ll)]) (by kernel_rfl) (fun w31 hg32 => ?_) (fun w31 hg32 => ?_)
 ·
  have hz33 := hg32.size
  have hB34 := fbU_new hB8 hg32
  have hk35 := hk9.kept hg32 (by simp)
  have hk36 := hk23.kept hg32 (by simp)
  exact ⟨hB34, hk35, hk36⟩
 have hz37 := hg32.size
 have hB38 := fbU_new hB8 hg32
 have hk39 := hk9.kept hg32 (by simp)
 have hk40 := hk23.kept hg32 (by simp)
 refine dk0 0 (v := pt b 0) h29 rfl rfl ⟨hB38, hk39, hk40⟩ fun a41 h41 => ?_; clear h29
 refine dk0 1 (v := pt b 0) h41 rfl rfl ⟨hB38, hk39, hk40⟩ fun a42 h42 => ?_; clear h41
 refine dk0 2 (v := pt b 4) h42 rfl rfl ⟨hB38, hk39, hk40⟩ fun a43 h43 => ?_; clear h42
 refine dk 3 (v := pt c 0) h43 rfl rfl ⟨hB38, hk39, hk40⟩ (fun x hx => (rn_load1 rfl rfl Try.isAgg84 (hx.2.1.cell rfl))) fun a44 h44 => ?_; clear h43
 refine dk0 4 (v := pt c 0) h44 rfl rfl ⟨hB38, hk39, hk40⟩ fun a45 h45 => ?_; clear h44
 refine dk0 5 (v := pt c 4) h45 rfl rfl ⟨hB38, hk39, hk40⟩ fun a46 h46 => ?_; clear h45
 refine dk 6 (v := (ptT ll)) h46 rfl rfl ⟨hB38, hk39, hk40⟩ (fun x hx => (rn_load1 rfl rfl Try.isAgg84 (hx.2.2.cell rfl))) fun a47 h47 => ?_; clear h46
 refine dk0 8 (v := pt b 0) h47 rfl rfl ⟨hB38, hk39, hk40⟩ fun a48 h48 => ?_; clear h47
 refine dk0 9 (v := pt b 0) h48 rfl rfl ⟨hB38, hk39, hk40⟩ fun a49 h49 => ?_; clear h48
 refine dk0 10 (v := pt b 4) h49 rfl rfl ⟨hB38, hk39, hk40⟩ fun a50 h50 => ?_; clear h49
 refine dk 11 (v := pt c 0) h50 rfl rfl ⟨hB38, hk39, hk40⟩ (fun x hx => (rn_load1 rfl rfl Try.isAgg84 (hx.2.1.cell rfl))) fun a51 h51 => ?_; clear h50
 refine dk0 12 (v := pt c 0) h51 rfl rfl ⟨hB38, hk39, hk40⟩ fun a52 h52 => ?_; clear h51
 refine dk0 13 (v := pt c 3) h52 rfl rfl ⟨hB38, hk39, hk40⟩ fun a53 h53 => ?_; clear h52
 refine dk 14 (v := (ptT lr)) h53 rfl rfl ⟨hB38, hk39, hk40⟩ (fun x hx => (rn_load1 rfl rfl Try.isAgg84 (hx.2.2.cell rfl))) fun a54 h54 => ?_; clear h53
 have hT57 := hll.gr hg3 (fun q e => by cases e)
 have hT58 := hT57.gr hg32 (fun q e => by cases e)
 refine d1 7 h54 rfl rfl (op_call (args := #[(ptT ll)]) (R := fun res xw => res = .int .i64 (dp ll) ∧ w31 = xw) rfl rfl rfl (by kernel_rfl) (by kernel_rfl) (Try.call59 _ _) (deep_any ll w31 hT58) (by rintro e x ⟨rfl, rfl⟩; exact ⟨_, rfl, rfl, rfl⟩)) ?_ ?_; clear h54
 ·
  rintro _ _ ⟨rfl, rfl⟩
  exact ⟨hB38, hk39, hk40⟩
 rintro _ _ a55 ⟨rfl, rfl⟩ h55
 have hT61 := hlr.gr hg3 (fun q e => by cases e)
 have hT62 := hT61.gr hg32 (fun q e => by cases e)
 refine d1 15 h55 rfl rfl (op_call (args := #[(ptT lr)]) (R := fun res xw => res = .int .i64 (dp lr) ∧ w31 = xw) rfl rfl rfl (by kernel_rfl) (by kernel_rfl) (Try.call59 _ _) (deep_any lr w31 hT62) (by rintro e x ⟨rfl, rfl⟩; exact ⟨_, rfl, rfl, rfl⟩)) ?_ ?_; clear h55
 ·
  rintro _ _ ⟨rfl, rfl⟩
  exact ⟨hB38, hk39, hk40⟩
 rintro _ _ a59 ⟨rfl, rfl⟩ h59
 refine dk0 16 (v := .bool (decide (dp ll < dp lr))) h59 rfl rfl ⟨hB38, hk39, hk40⟩ fun a63 h63 => ?_; clear h59
 refine dr_done (by kernel_rfl) ?_
 refine co_then ?_
 have hc64 : (decide (dp ll < dp lr)) = false := decide_eq_false (by omega)
 rw [hc64] at h63; clear hc64
 refine co_false h63 rfl ?_
 refine wp_skip ?_
 refine co_then ?_
 refine co_seq ?_
 refine co_reg ?_
 refine pk0 (v := pt b 0) h63 rfl fun a65 h65 => ?_; clear h63
 have hT68 := hT20.gr hg32 (fun q e => by cases e)
 refine pw h65 rfl (op_call (args := #[pt b 0]) (R := fun res xw => res = pt c 0 ∧ Blk xw b 89 #[.string k, .slice v.a v.n v.c, .int .i64 (1 + mx (dp r) (dp lr)), (ptT r), (ptT lr)] ∧ Blk xw c 89 #[.string k2, .slice v2.a v2.n v2.c, .int .i64 (1 + mx (1 + mx (dp r) (dp lr)) (dp ll)), pt b 0, (ptT ll)] ∧ But (fun q => q = b ∨ q = c) w31 xw) rfl rfl rfl (by kernel_rfl) (by kernel_rfl) (Try.call60 _ _) (upR_any b c ll k2 v2 d2 lr k v d r w31 hk39 hk40 hT58 hT62 hT68 hnebc n_b_ll n_b_lr n_b_r n_c_ll n_c_lr n_c_r (show 0 ≤ (dp ll) ∧ (dp ll) ≤ 990000 from ⟨by omega, by omega⟩) (show 0 ≤ (dp lr) ∧ (dp lr) ≤ 990000 from ⟨by omega, by omega⟩) (show 0 ≤ (dp r) ∧ (dp r) ≤ 990000 from ⟨by omega, by omega⟩)) (by rintro e x ⟨rfl, h1, h2, h3⟩; exact ⟨_, rfl, rfl, h1, h2, h3⟩)) ?_; clear h65
 rintro _ w67 a66 ⟨rfl, hq69, hq70, hb71⟩ h66
 obtain ⟨d72, hd73⟩ : ∃ z : Int, z = 1 + mx (dp r) (dp lr) := ⟨_, rfl⟩; rw [← hd73] at hq69 hq70
 have hd73b := mx_bd3 (a := (dp r)) (b := (dp lr))
 obtain ⟨d74, hd75⟩ : ∃ z : Int, z = 1 + mx d72 (dp ll) := ⟨_, rfl⟩; rw [← hd75] at hq70
 have hd75b := mx_bd3 (a := d72) (b := (dp ll))
 have hB76 := fbU_foot hB38 hb71 (fun i hi hS => by rcases hS with rfl | rfl <;> simp)
 have hz77 := hb71.size
 refine pk0 (v := pt c 0) h66 rfl fun a78 h78 => ?_; clear h66
 refine pl_nil ?_
 refine co_then ?_
 refine wp_ret ?_
 refine co_blockR ?_
 refine co_thenR ?_
 refine co_ret1 h78 rfl rfl ?_
 have hT79 := TreeAt.but hT58 hb71 (fun q hq => fun hq2 => by rcases hq2 with hq2 | hq2; exact (fun e : q = b => n_b_ll (e ▸ hq)) hq2; exact (fun e : q = c => n_c_ll (e ▸ hq)) hq2)
 have hT80 := TreeAt.but hT62 hb71 (fun q hq => fun hq2 => by rcases hq2 with hq2 | hq2; exact (fun e : q = b => n_b_lr (e ▸ hq)) hq2; exact (fun e : q = c => n_c_lr (e ▸ hq)) hq2)
 have hT81 := TreeAt.but hT68 hb71 (fun q hq => fun hq2 => by rcases hq2 with hq2 | hq2; exact (fun e : q = b => n_b_r (e ▸ hq)) hq2; exact (fun e : q = c => n_c_r (e ▸ hq)) hq2)
 subst hd73
 subst hd75
 exact ⟨rfl, hq69, hq70, hT79, hT80, hT81, hB76⟩
set_option maxRecDepth 100000 in
theorem balD_any (b : Nat) (c : Nat) (g : Nat) (ll : Tm) (el : Tm) (er : Tm) (r : Tm) (k : ByteArray) (v : SlT) (d : Int) (k2 : ByteArray) (v2 : SlT) (d2 : Int) (k3 : ByteArray) (v3 : SlT) (d3 : Int) (w : World) (hB : Blk w b 89 #[.string k, .slice v.a v.n v.c, .int .i64 d, (ptT r), pt c 0]) (hC : Blk w c 89 #[.string k2, .slice v2.a v2.n v2.c, .int .i64 d2, pt g 0, (ptT ll)]) (hE : Blk w g 89 #[.string k3, .slice v3.a v3.n v3.c, .int .i64 d3, (ptT er), (ptT el)]) (hll : TreeAt w ll) (hel : TreeAt w el) (her : TreeAt w er) (hr : TreeAt w r) (hnebc : b ≠ c) (hnebg : b ≠ g) (hnecg : c ≠ g) (n_b_ll : b ∉ bk ll) (n_b_el : b ∉ bk el) (n_b_er : b ∉ bk er) (n_b_r : b ∉ bk r) (n_c_ll : c ∉ bk ll) (n_c_el : c ∉ bk el) (n_c_er : c ∉ bk er) (n_c_r : c ∉ bk r) (n_g_ll : g ∉ bk ll) (n_g_el : g ∉ bk el) (n_g_er : g ∉ bk er) (n_g_r : g ∉ bk r) (hdll : 0 ≤ dp ll ∧ dp ll ≤ 900000) (hdel : 0 ≤ dp el ∧ dp el ≤ 900000) (hder : 0 ≤ dp er ∧ dp er ≤ 900000) (hdr : 0 ≤ dp r ∧ dp r ≤ 900000) (hd2 : 0 ≤ d2 ∧ d2 ≤ 900000) (hd3 : 0 ≤ d3 ∧ d3 ≤ 900000) (hdif : dp r - d2 = -2) (hcmp : dp ll < d3) :
    Calls Try.prog 53 #[pt b 0] w fun e w' => e = .returned (pt g 0) ∧ Blk w' b 89 #[.string k, .slice v.a v.n v.c, .int .i64 (1 + mx (dp r) (dp er)), ptT r, ptT er] ∧ Blk w' c 89 #[.string k2, .slice v2.a v2.n v2.c, .int .i64 (1 + mx (dp el) (dp ll)), ptT el, ptT ll] ∧ Blk w' g 89 #[.string k3, .slice v3.a v3.n v3.c, .int .i64 (1 + mx (1 + mx (dp r) (dp er)) (1 + mx (dp el) (dp ll))), pt b 0, pt c 0] ∧ TreeAt w' ll ∧ TreeAt w' el ∧ TreeAt w' er ∧ TreeAt w' r ∧ But (fun q => q = b ∨ q = c ∨ q = g) w w' := by
 have hB0 := But.refl (fun q => q = b ∨ q = c ∨ q = g) w
 have hl_hB := hB.lt
 have hl_hC := hC.lt
 have hl_hE := hE.lt
 have hSb : (fun q => q = b ∨ q = c ∨ q = g) b ∨ w.heap.size ≤ b := .inl (by simp)
 have hSc : (fun q => q = b ∨ q = c ∨ q = g) c ∨ w.heap.size ≤ c := .inl (by simp)
 have hSg : (fun q => q = b ∨ q = c ∨ q = g) g ∨ w.heap.size ≤ g := .inl (by simp)
 refine co_enter (n := 75) Try.func53 rfl rfl rfl [(0, pt b 0)] rfl (fun a h0 => ?_)
 refine co_seq ?_
 refine co_reg ?_
 refine pk0 (v := .pointer none) h0 rfl fun a1 h1 => ?_; clear h0
 refine pl_nil ?_
 refine co_then ?_
 refine co_seq ?_
 refine co_seq ?_
 refine dr_gen (fun x => But (fun q => q = b ∨ q = c ∨ q = g) w x ∧ Blk x b 89 #[.string k, .slice v.a v.n v.c, .int .i64 d, (ptT r), pt c 0]) (by kernel_rfl) (fun w2 hg3 => ?_) (fun w2 hg3 => ?_)
 ·
  have hz4 := hg3.size
  have hB5 := fbU_new hB0 hg3
  have hk6 := hB.kept hg3 (by simp)
  exact ⟨hB5, hk6⟩
 have hz7 := hg3.size
 have hB8 := fbU_new hB0 hg3
 have hk9 := hB.kept hg3 (by simp)
 refine dk0 0 (v := pt b 0) h1 rfl rfl ⟨hB8, hk9⟩ fun a10 h10 => ?_; clear h1
 refine dk0 1 (v := pt b 0) h10 rfl rfl ⟨hB8, hk9⟩ fun a11 h11 => ?_; clear h10
 refine dk0 2 (v := pt b 3) h11 rfl rfl ⟨hB8, hk9⟩ fun a12 h12 => ?_; clear h11
 refine dk 3 (v := (ptT r)) h12 rfl rfl ⟨hB8, hk9⟩ (fun x hx => (rn_load1 rfl rfl Try.isAgg84 (hx.2.cell rfl))) fun a13 h13 => ?_; clear h12
 refine dk0 5 (v := pt b 0) h13 rfl rfl ⟨hB8, hk9⟩ fun a14 h14 => ?_; clear h13
 refine dk0 6 (v := pt b 0) h14 rfl rfl ⟨hB8, hk9⟩ fun a15 h15 => ?_; clear h14
 refine dk0 7 (v := pt b 4) h15 rfl rfl ⟨hB8, hk9⟩ fun a16 h16 => ?_; clear h15
 refine dk 8 (v := pt c 0) h16 rfl rfl ⟨hB8, hk9⟩ (fun x hx => (rn_load1 rfl rfl Try.isAgg84 (hx.2.cell rfl))) fun a17 h17 => ?_; clear h16
 have hT20 := hr.gr hg3 (fun q e => by cases e)
 refine d1 4 h17 rfl rfl (op_call (args := #[(ptT r)]) (R := fun res xw => res = .int .i64 (dp r) ∧ w2 = xw) rfl rfl rfl (by kernel_rfl) (by kernel_rfl) (Try.call59 _ _) (deep_any r w2 hT20) (by rintro e x ⟨rfl, rfl⟩; exact ⟨_, rfl, rfl, rfl⟩)) ?_ ?_; clear h17
 ·
  rintro _ _ ⟨rfl, rfl⟩
  exact ⟨hB8, hk9⟩
 rintro _ _ a18 ⟨rfl, rfl⟩ h18
 have hk23 := hC.kept hg3 (by simp)
 refine d1 9 h18 rfl rfl (op_call (args := #[pt c 0]) (R := fun res xw => res = .int .i64 d2 ∧ w2 = xw) rfl rfl rfl (by kernel_rfl) (by kernel_rfl) (Try.call59 _ _) (deep_blk w2 hk23) (by rintro e x ⟨rfl, rfl⟩; exact ⟨_, rfl, rfl, rfl⟩)) ?_ ?_; clear h18
 ·
  rintro _ _ ⟨rfl, rfl⟩
  exact ⟨hB8, hk9⟩
 rintro _ _ a21 ⟨rfl, rfl⟩ h21
 refine dk 10 (v := .int .i64 ((dp r) - d2)) h21 rfl rfl ⟨hB8, hk9⟩ (fun x hx => (rn_arith rfl rfl rfl rfl rfl rfl (IntWalk.i64_in _ (by omega)))) fun a24 h24 => ?_; clear h21
 refine dr_done (by kernel_rfl) ?_
 refine co_then ?_
 refine wp_block ?_
 refine co_seq ?_
 refine co_reg ?_
 refine pk0 (v := .bool ((dp r) - d2 == 2)) h24 rfl fun a25 h25 => ?_; clear h24
 refine pk0 (v := .bool ((dp r) - d2 == 2)) h25 rfl fun a26 h26 => ?_; clear h25
 refine pl_nil ?_
 refine co_then ?_
 have hc27 : ((dp r) - d2 == 2) = false := by first | (simp; done) | (simp; omega) | exact beq_false_of_ne (by omega) | exact beq_iff_eq.2 (by omega)
 rw [hc27] at h26; clear hc27
 refine co_false h26 rfl ?_
 refine co_seq ?_
 refine co_reg ?_
 refine pk0 (v := .bool ((dp r) - d2 == (-2))) h26 rfl fun a28 h28 => ?_; clear h26
 refine pk0 (v := .bool ((dp r) - d2 == (-2))) h28 rfl fun a29 h29 => ?_; clear h28
 refine pl_nil ?_
 refine co_then ?_
 have hc30 : ((dp r) - d2 == (-2)) = true := by first | (simp; done) | (simp; omega) | exact beq_false_of_ne (by omega) | exact beq_iff_eq.2 (by omega)
 rw [hc30] at h29; clear hc30
 refine co_true h29 rfl ?_
 refine co_seq ?_
 refine co_seq ?_
 refine dr_gen (fun x => But (fun q => q = b ∨ q = c ∨ q = g) w x ∧ Blk x b 89 #[.string k, .slice v.a v.n v.c, .int .i64 d, (ptT r), pt c 0] ∧ Blk x c 89 #[.string k2, .slice v2.a v2.n v2.c, .int .i64 d2, pt g 0, (ptT ll)]) (by kernel_rfl) (fun w31 hg32 => ?_) (fun w31 hg32 => ?_)
 ·
  have hz33 := hg32.size
  have hB34 := fbU_new hB8 hg32
  have hk35 := hk9.kept hg32 (by simp)
  have hk36 := hk23.kept hg32 (by simp)
  exact ⟨hB34, hk35, hk36⟩
 have hz37 := hg32.size
 have hB38 := fbU_new hB8 hg32
 have hk39 := hk9.kept hg32 (by simp)
 have hk40 := hk23.kept hg32 (by simp)
 refine dk0 0 (v := pt b 0) h29 rfl rfl ⟨hB38, hk39, hk40⟩ fun a41 h41 => ?_; clear h29
 refine dk0 1 (v := pt b 0) h41 rfl rfl ⟨hB38, hk39, hk40⟩ fun a42 h42 => ?_; clear h41
 refine dk0 2 (v := pt b 4) h42 rfl rfl ⟨hB38, hk39, hk40⟩ fun a43 h43 => ?_; clear h42
 refine dk 3 (v := pt c 0) h43 rfl rfl ⟨hB38, hk39, hk40⟩ (fun x hx => (rn_load1 rfl rfl Try.isAgg84 (hx.2.1.cell rfl))) fun a44 h44 => ?_; clear h43
 refine dk0 4 (v := pt c 0) h44 rfl rfl ⟨hB38, hk39, hk40⟩ fun a45 h45 => ?_; clear h44
 refine dk0 5 (v := pt c 4) h45 rfl rfl ⟨hB38, hk39, hk40⟩ fun a46 h46 => ?_; clear h45
 refine dk 6 (v := (ptT ll)) h46 rfl rfl ⟨hB38, hk39, hk40⟩ (fun x hx => (rn_load1 rfl rfl Try.isAgg84 (hx.2.2.cell rfl))) fun a47 h47 => ?_; clear h46
 refine dk0 8 (v := pt b 0) h47 rfl rfl ⟨hB38, hk39, hk40⟩ fun a48 h48 => ?_; clear h47
 refine dk0 9 (v := pt b 0) h48 rfl rfl ⟨hB38, hk39, hk40⟩ fun a49 h49 => ?_; clear h48
 refine dk0 10 (v := pt b 4) h49 rfl rfl ⟨hB38, hk39, hk40⟩ fun a50 h50 => ?_; clear h49
 refine dk 11 (v := pt c 0) h50 rfl rfl ⟨hB38, hk39, hk40⟩ (fun x hx => (rn_load1 rfl rfl Try.isAgg84 (hx.2.1.cell rfl))) fun a51 h51 => ?_; clear h50
 refine dk0 12 (v := pt c 0) h51 rfl rfl ⟨hB38, hk39, hk40⟩ fun a52 h52 => ?_; clear h51
 refine dk0 13 (v := pt c 3) h52 rfl rfl ⟨hB38, hk39, hk40⟩ fun a53 h53 => ?_; clear h52
 refine dk 14 (v := pt g 0) h53 rfl rfl ⟨hB38, hk39, hk40⟩ (fun x hx => (rn_load1 rfl rfl Try.isAgg84 (hx.2.2.cell rfl))) fun a54 h54 => ?_; clear h53
 have hT57 := hll.gr hg3 (fun q e => by cases e)
 have hT58 := hT57.gr hg32 (fun q e => by cases e)
 refine d1 7 h54 rfl rfl (op_call (args := #[(ptT ll)]) (R := fun res xw => res = .int .i64 (dp ll) ∧ w31 = xw) rfl rfl rfl (by kernel_rfl) (by kernel_rfl) (Try.call59 _ _) (deep_any ll w31 hT58) (by rintro e x ⟨rfl, rfl⟩; exact ⟨_, rfl, rfl, rfl⟩)) ?_ ?_; clear h54
 ·
  rintro _ _ ⟨rfl, rfl⟩
  exact ⟨hB38, hk39, hk40⟩
 rintro _ _ a55 ⟨rfl, rfl⟩ h55
 have hk61 := hE.kept hg3 (by simp)
 have hk62 := hk61.kept hg32 (by simp)
 refine d1 15 h55 rfl rfl (op_call (args := #[pt g 0]) (R := fun res xw => res = .int .i64 d3 ∧ w31 = xw) rfl rfl rfl (by kernel_rfl) (by kernel_rfl) (Try.call59 _ _) (deep_blk w31 hk62) (by rintro e x ⟨rfl, rfl⟩; exact ⟨_, rfl, rfl, rfl⟩)) ?_ ?_; clear h55
 ·
  rintro _ _ ⟨rfl, rfl⟩
  exact ⟨hB38, hk39, hk40⟩
 rintro _ _ a59 ⟨rfl, rfl⟩ h59
 refine dk0 16 (v := .bool (decide (dp ll < d3))) h59 rfl rfl ⟨hB38, hk39, hk40⟩ fun a63 h63 => ?_; clear h59
 refine dr_done (by kernel_rfl) ?_
 refine co_then ?_
 have hc64 : (decide (dp ll < d3)) = true := decide_eq_true (by omega)
 rw [hc64] at h63; clear hc64
 refine co_true h63 rfl ?_
 refine co_reg ?_
 refine pk0 (v := pt b 0) h63 rfl fun a65 h65 => ?_; clear h63
 refine pk0 (v := pt b 0) h65 rfl fun a66 h66 => ?_; clear h65
 refine pk0 (v := pt b 0) h66 rfl fun a67 h67 => ?_; clear h66
 refine pk0 (v := pt b 4) h67 rfl fun a68 h68 => ?_; clear h67
 refine pk (v := pt c 0) h68 rfl (rn_load1 rfl rfl Try.isAgg84 (hk39.cell rfl)) fun a69 h69 => ?_; clear h68
 have hT72 := hel.gr hg3 (fun q e => by cases e)
 have hT73 := hT72.gr hg32 (fun q e => by cases e)
 have hT74 := her.gr hg3 (fun q e => by cases e)
 have hT75 := hT74.gr hg32 (fun q e => by cases e)
 refine pw h69 rfl (op_call (args := #[pt c 0]) (R := fun res xw => res = pt g 0 ∧ Blk xw c 89 #[.string k2, .slice v2.a v2.n v2.c, .int .i64 (1 + mx (dp el) (dp ll)), (ptT el), (ptT ll)] ∧ Blk xw g 89 #[.string k3, .slice v3.a v3.n v3.c, .int .i64 (1 + mx (dp er) (1 + mx (dp el) (dp ll))), (ptT er), pt c 0] ∧ But (fun q => q = c ∨ q = g) w31 xw) rfl rfl rfl (by kernel_rfl) (by kernel_rfl) (Try.call61 _ _) (upL_any c g er k3 v3 d3 el k2 v2 d2 ll w31 hk40 hk62 hT75 hT73 hT58 hnecg n_c_er n_c_el n_c_ll n_g_er n_g_el n_g_ll (show 0 ≤ (dp er) ∧ (dp er) ≤ 990000 from ⟨by omega, by omega⟩) (show 0 ≤ (dp el) ∧ (dp el) ≤ 990000 from ⟨by omega, by omega⟩) (show 0 ≤ (dp ll) ∧ (dp ll) ≤ 990000 from ⟨by omega, by omega⟩)) (by rintro e x ⟨rfl, h1, h2, h3⟩; exact ⟨_, rfl, rfl, h1, h2, h3⟩)) ?_; clear h69
 rintro _ w71 a70 ⟨rfl, hq76, hq77, hb78⟩ h70
 obtain ⟨d79, hd80⟩ : ∃ z : Int, z = 1 + mx (dp el) (dp ll) := ⟨_, rfl⟩; rw [← hd80] at hq76 hq77
 have hd80b := mx_bd3 (a := (dp el)) (b := (dp ll))
 obtain ⟨d81, hd82⟩ : ∃ z : Int, z = 1 + mx (dp er) d79 := ⟨_, rfl⟩; rw [← hd82] at hq77
 have hd82b := mx_bd3 (a := (dp er)) (b := d79)
 have hB83 := fbU_foot hB38 hb78 (fun i hi hS => by rcases hS with rfl | rfl <;> simp)
 have hz84 := hb78.size
 refine pk0 (v := pt b 0) h70 rfl fun a85 h85 => ?_; clear h70
 refine pk0 (v := pt b 4) h85 rfl fun a86 h86 => ?_; clear h85
 have hk92 := Blk.butS hk39 hb78 (fun hq => by rcases hq with hq | hq; exact absurd hq hnebc; exact absurd hq hnebg)
 refine pwD h86 rfl (op_store1 rfl rfl rfl rfl Try.sizeOf84 hk92 rfl) ?_; clear h86
 rintro _ w88 a87 ⟨hk89, hz90, hg91⟩ h87
 have hk89' : Blk w88 b 89 #[.string k, .slice v.a v.n v.c, .int .i64 d, (ptT r), pt g 0] := hk89; clear hk89
 have hz93 := hg91.size
 refine pl_nil ?_
 refine co_then ?_
 refine co_seq ?_
 refine co_reg ?_
 refine pk0 (v := pt b 0) h87 rfl fun a94 h94 => ?_; clear h87
 have hB97 := fbU_at hB83 hg91 (fun hlt => by rcases hSb with hq | hq; exact hq; omega)
 have hT98 := TreeAt.but hT58 hb78 (fun q hq => fun hq2 => by rcases hq2 with hq2 | hq2; exact (fun e : q = c => n_c_ll (e ▸ hq)) hq2; exact (fun e : q = g => n_g_ll (e ▸ hq)) hq2)
 have hT99 := hT98.gr hg91 (fun q e => by cases e; exact n_b_ll)
 have hT100 := TreeAt.but hT73 hb78 (fun q hq => fun hq2 => by rcases hq2 with hq2 | hq2; exact (fun e : q = c => n_c_el (e ▸ hq)) hq2; exact (fun e : q = g => n_g_el (e ▸ hq)) hq2)
 have hT101 := hT100.gr hg91 (fun q e => by cases e; exact n_b_el)
 have hT102 := TreeAt.but hT75 hb78 (fun q hq => fun hq2 => by rcases hq2 with hq2 | hq2; exact (fun e : q = c => n_c_er (e ▸ hq)) hq2; exact (fun e : q = g => n_g_er (e ▸ hq)) hq2)
 have hT103 := hT102.gr hg91 (fun q e => by cases e; exact n_b_er)
 have hT104 := hT20.gr hg32 (fun q e => by cases e)
 have hT105 := TreeAt.but hT104 hb78 (fun q hq => fun hq2 => by rcases hq2 with hq2 | hq2; exact (fun e : q = c => n_c_r (e ▸ hq)) hq2; exact (fun e : q = g => n_g_r (e ▸ hq)) hq2)
 have hT106 := hT105.gr hg91 (fun q e => by cases e; exact n_b_r)
 have hk107 := hq76.kept hg91 (by simp; omega)
 have hk115 := hq77.kept hg91 (by simp; omega)
 refine pw h94 rfl (op_call (args := #[pt b 0]) (R := fun res xw => res = pt g 0 ∧ Blk xw b 89 #[.string k, .slice v.a v.n v.c, .int .i64 (1 + mx (dp r) (dp er)), (ptT r), (ptT er)] ∧ Blk xw g 89 #[.string k3, .slice v3.a v3.n v3.c, .int .i64 (1 + mx (1 + mx (dp r) (dp er)) d79), pt b 0, pt c 0] ∧ But (fun q => q = b ∨ q = g) w88 xw) rfl rfl rfl (by kernel_rfl) (by kernel_rfl) (Try.call60 _ _) (upR_any b g (Tm.nd c el k2 v2 d79 ll) k3 v3 d81 er k v d r w88 hk89' hk115 ⟨hk107, hT101, hT99⟩ hT103 hT106 hnebg (nin_nd hnebc n_b_el n_b_ll) n_b_er n_b_r (nin_nd (Ne.symm hnecg) n_g_el n_g_ll) n_g_er n_g_r (show 0 ≤ d79 ∧ d79 ≤ 990000 from ⟨by omega, by omega⟩) (show 0 ≤ (dp er) ∧ (dp er) ≤ 990000 from ⟨by omega, by omega⟩) (show 0 ≤ (dp r) ∧ (dp r) ≤ 990000 from ⟨by omega, by omega⟩)) (by rintro e x ⟨rfl, h1, h2, h3⟩; exact ⟨_, rfl, rfl, h1, h2, h3⟩)) ?_; clear h94
 rintro _ w96 a95 ⟨rfl, hq108, hq109, hb110⟩ h95
 obtain ⟨d111, hd112⟩ : ∃ z : Int, z = 1 + mx (dp r) (dp er) := ⟨_, rfl⟩; rw [← hd112] at hq108 hq109
 have hd112b := mx_bd3 (a := (dp r)) (b := (dp er))
 obtain ⟨d113, hd114⟩ : ∃ z : Int, z = 1 + mx d111 d79 := ⟨_, rfl⟩; rw [← hd114] at hq109
 have hd114b := mx_bd3 (a := d111) (b := d79)
 have hB116 := fbU_foot hB97 hb110 (fun i hi hS => by rcases hS with rfl | rfl <;> simp)
 have hz117 := hb110.size
 refine pk0 (v := pt g 0) h95 rfl fun a118 h118 => ?_; clear h95
 refine pl_nil ?_
 refine co_then ?_
 refine wp_ret ?_
 refine co_blockR ?_
 refine co_thenR ?_
 refine co_ret1 h118 rfl rfl ?_
 have hk119 := Blk.butS hk107 hb110 (fun hq => by rcases hq with hq | hq; exact absurd hq (Ne.symm hnebc); exact absurd hq hnecg)
 have hT120 := TreeAt.but hT99 hb110 (fun q hq => fun hq2 => by rcases hq2 with hq2 | hq2; exact (fun e : q = b => n_b_ll (e ▸ hq)) hq2; exact (fun e : q = g => n_g_ll (e ▸ hq)) hq2)
 have hT121 := TreeAt.but hT101 hb110 (fun q hq => fun hq2 => by rcases hq2 with hq2 | hq2; exact (fun e : q = b => n_b_el (e ▸ hq)) hq2; exact (fun e : q = g => n_g_el (e ▸ hq)) hq2)
 have hT122 := TreeAt.but hT103 hb110 (fun q hq => fun hq2 => by rcases hq2 with hq2 | hq2; exact (fun e : q = b => n_b_er (e ▸ hq)) hq2; exact (fun e : q = g => n_g_er (e ▸ hq)) hq2)
 have hT123 := TreeAt.but hT106 hb110 (fun q hq => fun hq2 => by rcases hq2 with hq2 | hq2; exact (fun e : q = b => n_b_r (e ▸ hq)) hq2; exact (fun e : q = g => n_g_r (e ▸ hq)) hq2)
 subst hd112
 subst hd114
 subst hd80
 subst hd82
 exact ⟨rfl, hq108, hk119, hq109, hT120, hT121, hT122, hT123, hB116⟩
set_option maxRecDepth 100000 in
theorem balE_any (b : Nat) (l : Tm) (k : ByteArray) (v : SlT) (d : Int) (r : Tm) (w : World) (hB : Blk w b 89 #[.string k, .slice v.a v.n v.c, .int .i64 d, (ptT l), (ptT r)]) (hl : TreeAt w l) (hr : TreeAt w r) (hbl : b ∉ bk l) (hbr : b ∉ bk r) (hdl : 0 ≤ dp l ∧ dp l ≤ 900000) (hdr : 0 ≤ dp r ∧ dp r ≤ 900000) (h2 : ¬ dp l - dp r = 2) (h3 : ¬ dp l - dp r = -2) :
    Calls Try.prog 53 #[pt b 0] w fun e w' => e = .returned (pt b 0) ∧ Blk w' b 89 (ndV k v (1 + mx (dp l) (dp r)) l r) ∧ TreeAt w' l ∧ TreeAt w' r ∧ But (fun q => q = b) w w' := by
 have hB0 := But.refl (fun q => q = b) w
 have hl_hB := hB.lt
 have hSb : (fun q => q = b) b ∨ w.heap.size ≤ b := .inl rfl
 refine co_enter (n := 75) Try.func53 rfl rfl rfl [(0, pt b 0)] rfl (fun a h0 => ?_)
 refine co_seq ?_
 refine co_reg ?_
 refine pk0 (v := .pointer none) h0 rfl fun a1 h1 => ?_; clear h0
 refine pl_nil ?_
 refine co_then ?_
 refine co_seq ?_
 refine co_seq ?_
 refine dr_gen (fun x => But (fun q => q = b) w x ∧ Blk x b 89 #[.string k, .slice v.a v.n v.c, .int .i64 d, (ptT l), (ptT r)]) (by kernel_rfl) (fun w2 hg3 => ?_) (fun w2 hg3 => ?_)
 ·
  have hz4 := hg3.size
  have hB5 := fbU_new hB0 hg3
  have hk6 := hB.kept hg3 (by simp)
  exact ⟨hB5, hk6⟩
 have hz7 := hg3.size
 have hB8 := fbU_new hB0 hg3
 have hk9 := hB.kept hg3 (by simp)
 refine dk0 0 (v := pt b 0) h1 rfl rfl ⟨hB8, hk9⟩ fun a10 h10 => ?_; clear h1
 refine dk0 1 (v := pt b 0) h10 rfl rfl ⟨hB8, hk9⟩ fun a11 h11 => ?_; clear h10
 refine dk0 2 (v := pt b 3) h11 rfl rfl ⟨hB8, hk9⟩ fun a12 h12 => ?_; clear h11
 refine dk 3 (v := (ptT l)) h12 rfl rfl ⟨hB8, hk9⟩ (fun x hx => (rn_load1 rfl rfl Try.isAgg84 (hx.2.cell rfl))) fun a13 h13 => ?_; clear h12
 refine dk0 5 (v := pt b 0) h13 rfl rfl ⟨hB8, hk9⟩ fun a14 h14 => ?_; clear h13
 refine dk0 6 (v := pt b 0) h14 rfl rfl ⟨hB8, hk9⟩ fun a15 h15 => ?_; clear h14
 refine dk0 7 (v := pt b 4) h15 rfl rfl ⟨hB8, hk9⟩ fun a16 h16 => ?_; clear h15
 refine dk 8 (v := (ptT r)) h16 rfl rfl ⟨hB8, hk9⟩ (fun x hx => (rn_load1 rfl rfl Try.isAgg84 (hx.2.cell rfl))) fun a17 h17 => ?_; clear h16
 have hT20 := hl.gr hg3 (fun q e => by cases e)
 refine d1 4 h17 rfl rfl (op_call (args := #[(ptT l)]) (R := fun res xw => res = .int .i64 (dp l) ∧ w2 = xw) rfl rfl rfl (by kernel_rfl) (by kernel_rfl) (Try.call59 _ _) (deep_any l w2 hT20) (by rintro e x ⟨rfl, rfl⟩; exact ⟨_, rfl, rfl, rfl⟩)) ?_ ?_; clear h17
 ·
  rintro _ _ ⟨rfl, rfl⟩
  exact ⟨hB8, hk9⟩
 rintro _ _ a18 ⟨rfl, rfl⟩ h18
 have hT23 := hr.gr hg3 (fun q e => by cases e)
 refine d1 9 h18 rfl rfl (op_call (args := #[(ptT r)]) (R := fun res xw => res = .int .i64 (dp r) ∧ w2 = xw) rfl rfl rfl (by kernel_rfl) (by kernel_rfl) (Try.call59 _ _) (deep_any r w2 hT23) (by rintro e x ⟨rfl, rfl⟩; exact ⟨_, rfl, rfl, rfl⟩)) ?_ ?_; clear h18
 ·
  rintro _ _ ⟨rfl, rfl⟩
  exact ⟨hB8, hk9⟩
 rintro _ _ a21 ⟨rfl, rfl⟩ h21
 refine dk 10 (v := .int .i64 ((dp l) - (dp r))) h21 rfl rfl ⟨hB8, hk9⟩ (fun x hx => (rn_arith rfl rfl rfl rfl rfl rfl (IntWalk.i64_in _ (by omega)))) fun a24 h24 => ?_; clear h21
 refine dr_done (by kernel_rfl) ?_
 refine co_then ?_
 refine wp_block ?_
 refine co_seq ?_
 refine co_reg ?_
 refine pk0 (v := .bool ((dp l) - (dp r) == 2)) h24 rfl fun a25 h25 => ?_; clear h24
 refine pk0 (v := .bool ((dp l) - (dp r) == 2)) h25 rfl fun a26 h26 => ?_; clear h25
 refine pl_nil ?_
 refine co_then ?_
 have hc27 : ((dp l) - (dp r) == 2) = false := by first | (simp; done) | (simp; omega) | exact beq_false_of_ne (by omega) | exact beq_iff_eq.2 (by omega)
 rw [hc27] at h26; clear hc27
 refine co_false h26 rfl ?_
 refine co_seq ?_
 refine co_reg ?_
 refine pk0 (v := .bool ((dp l) - (dp r) == (-2))) h26 rfl fun a28 h28 => ?_; clear h26
 refine pk0 (v := .bool ((dp l) - (dp r) == (-2))) h28 rfl fun a29 h29 => ?_; clear h28
 refine pl_nil ?_
 refine co_then ?_
 have hc30 : ((dp l) - (dp r) == (-2)) = false := by first | (simp; done) | (simp; omega) | exact beq_false_of_ne (by omega) | exact beq_iff_eq.2 (by omega)
 rw [hc30] at h29; clear hc30
 refine co_false h29 rfl ?_
 refine wp_skip ?_
 refine co_blockN ?_
 refine co_then ?_
 refine co_seq ?_
 refine co_reg ?_
 refine pk0 (v := pt b 0) h29 rfl fun a31 h31 => ?_; clear h29
 refine pw h31 rfl (op_call (args := #[pt b 0]) (R := fun res xw => res = .tuple #[] ∧ Blk xw b 89 #[.string k, .slice v.a v.n v.c, .int .i64 (1 + mx (dp l) (dp r)), (ptT l), (ptT r)] ∧ But (fun q => q = b) w2 xw) rfl rfl rfl (by kernel_rfl) (by kernel_rfl) (Try.call62 _ _) (measure_any b l k v d r w2 hk9 hT20 hT23 hbl hbr (show 0 ≤ (dp l) ∧ (dp l) ≤ 1000000 from ⟨by omega, by omega⟩) (show 0 ≤ (dp r) ∧ (dp r) ≤ 1000000 from ⟨by omega, by omega⟩)) (by rintro e x ⟨rfl, h1, h2⟩; exact ⟨_, rfl, rfl, h1, h2⟩)) ?_; clear h31
 rintro _ w33 a32 ⟨rfl, hq34, hb35⟩ h32
 obtain ⟨d36, hd37⟩ : ∃ z : Int, z = 1 + mx (dp l) (dp r) := ⟨_, rfl⟩; rw [← hd37] at hq34
 have hd37b := mx_bd3 (a := (dp l)) (b := (dp r))
 have hB38 := fbU_foot hB8 hb35 (fun i hi hS => by rcases hS with rfl; rfl)
 have hz39 := hb35.size
 refine pl_nil ?_
 refine co_then ?_
 refine co_seq ?_
 refine co_reg ?_
 refine pk0 (v := pt b 0) h32 rfl fun a40 h40 => ?_; clear h32
 refine pk0 (v := pt b 0) h40 rfl fun a41 h41 => ?_; clear h40
 refine pl_nil ?_
 refine co_then ?_
 refine wp_ret ?_
 refine co_ret1 h41 rfl rfl ?_
 have hT42 := TreeAt.but hT20 hb35 (fun q hq => (fun e : q = b => hbl (e ▸ hq)))
 have hT43 := TreeAt.but hT23 hb35 (fun q hq => (fun e : q = b => hbr (e ▸ hq)))
 subst hd37
 exact ⟨rfl, hq34, hT42, hT43, hB38⟩
end Go.Proofs.Ytfjhlckklgeokaa
