/- Put together: RstCRv, RstDRv, RstERv, RstHRv, RstIRv, RstFRv, ConfJzRv, NoJRv, RstJRv. Conditions: as each says. -/
import Derived.Test.YtkjnhghniopnoaaRw4
import Derived.Test.YtkjnhghniopnoaaRw5
import Derived.Test.YtkjnhghniopnoaaRw1
/- Package rstate: New, Stamped. Conditions: none. -/
namespace Go.Proofs.Ytkjnhghniopnoaa
open Go.RowKit Go.PlainAid
set_option linter.unusedVariables false
set_option linter.unusedSimpArgs false


def bA : ByteArray := ⟨#[97]⟩
def b1 : ByteArray := ⟨#[49]⟩
def opA : OpT := (bA, b1, false)
theorem mvo_butR {S D : Nat → Prop} {w x : World} {b m : Nat} {f : Fv} {la ce : Int} (h : MvO S w b f la ce m) (hb : But D w x) (ha : ∀ q, S q → D q → False) : MvO S x b f la ce m := h.but hb (fun q h1 h2 => ha q h2 h1)
def enA (v : Value) (ts : Int) : EntT := EntT.mk 0 1 v [opA] ts
set_option maxRecDepth 100000 in
theorem rsNew_blk  (w : World)  :
    Calls Try.prog 8 #[] w fun e w' => ∃ (b : Nat) (q : Nat) (g : Nat) (S' : Nat → Prop), e = .returned (pt b 0) ∧ Blk w' b 68 #[pt q 0] ∧ Blk w' q 80 #[pt g 0, .int .i64 0, .slice none 0 0, .int .u64 0, .int .u64 0] ∧ LObj S' w' g [] ∧ ¬ S' b ∧ ¬ S' q ∧ (∀ k, S' k → w.heap.size ≤ k) ∧ w.heap.size ≤ b ∧ w.heap.size ≤ q ∧ Below w.heap.size w w' := by
 have hB0 := Below.refl w.heap.size w
 refine co_enter (n := 6) Try.func8 rfl rfl rfl [] rfl (fun a h0 => ?_)
 refine co_seq ?_
 refine co_reg ?_
 refine pk0 (v := .pointer none) h0 rfl fun a1 h1 => ?_; clear h0
 refine pl_nil ?_
 refine co_then ?_
 refine co_seq ?_
 refine co_reg ?_
 refine pw h1 rfl (op_call (args := #[]) (R := fun res xw => ∃ N S, res = pt N 0 ∧ LObj S xw N [] ∧ (∀ q, S q → w.heap.size ≤ q) ∧ Below w.heap.size w xw) rfl rfl rfl (by kernel_rfl) (by kernel_rfl) (Try.call29 _ _) (tNew w) (by rintro e x ⟨N, S, rfl, h⟩; exact ⟨_, rfl, N, S, rfl, h⟩)) ?_; clear h1
 rintro _ w3 a2 ⟨N4, S5, rfl, hO6, hlo7, hb8⟩ h2
 have hz9 := hb8.size
 have hlo10 : ∀ q, S5 q → w.heap.size ≤ q := fun q hq => by have := hlo7 q hq; omega
 refine pk0 (v := .agg #[pt N4 0, .int .i64 0, .slice none 0 0, .int .u64 0, .int .u64 0]) h2 rfl fun a11 h11 => ?_; clear h2
 refine pw h11 rfl (op_new (v := fun N => pt N 0) (T := 80) (cs := #[pt N4 0, .int .i64 0, .slice none 0 0, .int .u64 0, .int .u64 0]) (by kernel_rfl) (by kernel_rfl) (by kernel_rfl)) ?_; clear h11
 rintro _ w13 a12 ⟨N14, rfl, hN17, hz18, hk16, hg15⟩ h12
 have hz19 := hg15.size
 have ho20 := off_new (LObj.ofS hO6) hN17
 try dsimp only at h12
 refine pk0 (v := .agg #[pt N14 0]) h12 rfl fun a21 h21 => ?_; clear h12
 refine pw h21 rfl (op_new (v := fun N => pt N 0) (T := 68) (cs := #[pt N14 0]) (by kernel_rfl) (by kernel_rfl) (by kernel_rfl)) ?_; clear h21
 rintro _ w23 a22 ⟨N24, rfl, hN27, hz28, hk26, hg25⟩ h22
 have hz29 := hg25.size
 have hO31 := LObj.gr hO6 hg15 (fun k e => by cases e)
 have ho30 := off_new (LObj.ofS hO31) hN27
 try dsimp only at h22
 refine pk0 (v := pt N24 0) h22 rfl fun a32 h32 => ?_; clear h22
 refine pl_nil ?_
 refine co_then ?_
 refine wp_ret ?_
 refine co_ret1 h32 rfl rfl ?_
 have hk33 := hk16.kept hg25 (by simp)
 have hO34 := LObj.gr hO31 hg25 (fun k e => by cases e)
 have hB35 := hb_call hB0 hb8
 have hB36 := hb_new hB35 hg15
 have hB37 := hb_new hB36 hg25
 exact ⟨_, _, _, _, rfl, hk26, hk33, hO34, ho30, ho20, hlo10, by omega, by omega, hB37⟩
set_option maxRecDepth 100000 in
theorem rsStamped_blk (b : Nat) (q : Nat) (g : Nat) (S : Nat → Prop) (L : List EntT) (ep : Int) (cv : Value) (fl : Int) (hz : Int) (w : World) (hb : Blk w b 68 #[pt q 0]) (hq : Blk w q 80 #[pt g 0, .int .i64 ep, cv, .int .u64 fl, .int .u64 hz]) (hL : LObj S w g L) (hSb : ¬ S b) (hSq : ¬ S q) :
    Calls Try.prog 19 #[pt b 0] w fun e w' => ∃ (S' : Nat → Prop), e = .returned (.int .i64 ((stN L : Nat) : Int)) ∧ LObj S' w' g L ∧ (∀ k, S' k → S k ∨ w.heap.size ≤ k) ∧ But (S) w w' := by
 have hlq := hq.lt
 have hlb := hb.lt
 have hB0 := But.refl (S) w
 have hl_hb := hb.lt
 have hl_hq := hq.lt
 have hinS : ∀ k, S k → S k ∨ w.heap.size ≤ k := fun k hk => .inl hk
 refine co_enter (n := 9) Try.func19 rfl rfl rfl [(0, pt b 0)] rfl (fun a h0 => ?_)
 refine co_seq ?_
 refine co_reg ?_
 refine pk0 (v := .int .i64 0) h0 rfl fun a1 h1 => ?_; clear h0
 refine pl_nil ?_
 refine co_then ?_
 refine co_seq ?_
 refine co_reg ?_
 refine pk0 (v := pt b 0) h1 rfl fun a2 h2 => ?_; clear h1
 refine pw h2 rfl (op_call (args := #[pt b 0]) (R := fun res xw => res = pt q 0 ∧ w = xw) rfl rfl rfl (by kernel_rfl) (by kernel_rfl) (Try.call30 _ _) (rsgetT b q w hb) (by rintro e x ⟨rfl, rfl⟩; exact ⟨_, rfl, ⟨rfl, rfl⟩⟩)) ?_; clear h2
 rintro _ _ a3 ⟨rfl, rfl⟩ h3
 refine pk0 (v := pt q 0) h3 rfl fun a6 h6 => ?_; clear h3
 refine pk0 (v := pt q 0) h6 rfl fun a7 h7 => ?_; clear h6
 refine pk (v := pt g 0) h7 rfl (rn_load1 rfl rfl Try.isAgg77 (hq.cell rfl)) fun a8 h8 => ?_; clear h7
 refine pw h8 rfl (op_call (args := #[pt g 0]) (R := fun res xw => ∃ S' : Nat → Prop, res = .int .i64 ((stN L : Nat) : Int) ∧ LObj S' xw g L ∧ Grew S S' w xw) rfl rfl rfl (by kernel_rfl) (by kernel_rfl) (Try.call41 _ _) (tStamped w hL) (by rintro e x ⟨S', h0, h⟩; exact ⟨_, h0, S', rfl, h⟩)) ?_; clear h8
 rintro _ w10 a9 ⟨S11, rfl, hO12, hx13⟩ h9
 have hB14 := fbU_foot hB0 hx13.but (fun i hi hq => by rcases hinS i hq with k | k; exact k; omega)
 have hz15 := hB14.size
 have hz16 := hx13.but.size
 have hin17 : ∀ k, S11 k → (S k) ∨ w.heap.size ≤ k := fun k hk => by rcases hx13.sub k hk with j | j; exact hinS k j; exact .inr (by omega)
 refine pk0 (v := .int .i64 ((stN L : Nat) : Int)) h9 rfl fun a18 h18 => ?_; clear h9
 refine pl_nil ?_
 refine co_then ?_
 refine wp_ret ?_
 refine co_ret1 h18 rfl rfl ?_
 exact ⟨_, rfl, hO12, hin17, hB14⟩
end Go.Proofs.Ytkjnhghniopnoaa

/- Package rstate: Feed of one entry. Conditions: the entry of awake. -/
namespace Go.Proofs.Ytkjnhghniopnoaa
open Go.RowKit Go.PlainAid
set_option linter.unusedVariables false
set_option linter.unusedSimpArgs false

set_option maxRecDepth 100000 in
set_option maxHeartbeats 1600000 in
theorem rsFeed1_blk (b : Nat) (q : Nat) (g : Nat) (S : Nat → Prop) (v : Value) (ep : Int) (cv : Value) (fl : Int) (hz : Int) (m : Nat) (D : Nat → Prop) (w : World) (hb : Blk w b 68 #[pt q 0]) (hq : Blk w q 80 #[pt g 0, .int .i64 ep, cv, .int .u64 fl, .int .u64 hz]) (hL : LObj S w g [enA v 5]) (hSb : ¬ S b) (hSq : ¬ S q) (hV : MvO D w m (fun _ => []) 0 0 0) (hap : ∀ k, S k → D k → False) (hDb : ¬ D b) (hDq : ¬ D q) :
    Calls Try.prog 15 #[pt b 0, pt m 0, .int .i64 0, .int .i64 9] w fun e w' => ∃ (S' : Nat → Prop) (D' : Nat → Prop), e = .returned (.int .i64 1) ∧ LObj S' w' g [enA v 5] ∧ MvO D' w' m (mvF (fun _ => []) 0 5 [opA]) (mvLa 0 5 [opA]) (mvCe 0 5 0 [opA]) 1 ∧ (∀ k, S' k → S k ∨ w.heap.size ≤ k) ∧ (∀ k, D' k → D k ∨ w.heap.size ≤ k) ∧ (∀ k, S' k → D' k → False) ∧ But (fun k => S k ∨ D k) w w' := by
 have hlq := hq.lt
 have hlb := hb.lt
 have hB0 := But.refl (fun k => S k ∨ D k) w
 have hl_hb := hb.lt
 have hl_hq := hq.lt
 have hinS : ∀ k, S k → S k ∨ w.heap.size ≤ k := fun k hk => .inl hk
 have hinD : ∀ k, D k → D k ∨ w.heap.size ≤ k := fun k hk => .inl hk
 refine co_enter (n := 51) Try.func15 rfl rfl rfl [(0, pt b 0), (1, pt m 0), (2, .int .i64 0), (3, .int .i64 9)] rfl (fun a h0 => ?_)
 refine co_seq ?_
 refine co_reg ?_
 refine pk0 (v := .int .i64 0) h0 rfl fun a1 h1 => ?_; clear h0
 refine pl_nil ?_
 refine co_then ?_
 refine co_seq ?_
 refine co_reg ?_
 refine pk0 (v := pt b 0) h1 rfl fun a2 h2 => ?_; clear h1
 refine pw h2 rfl (op_call (args := #[pt b 0]) (R := fun res xw => res = pt q 0 ∧ w = xw) rfl rfl rfl (by kernel_rfl) (by kernel_rfl) (Try.call30 _ _) (rsgetT b q w hb) (by rintro e x ⟨rfl, rfl⟩; exact ⟨_, rfl, ⟨rfl, rfl⟩⟩)) ?_; clear h2
 rintro _ _ a3 ⟨rfl, rfl⟩ h3
 refine pk0 (v := pt q 0) h3 rfl fun a6 h6 => ?_; clear h3
 refine pl_nil ?_
 refine co_then ?_
 refine co_seq ?_
 refine co_seq ?_
 refine co_reg ?_
 refine pk0 (v := pt q 0) h6 rfl fun a7 h7 => ?_; clear h6
 refine pw h7 rfl (op_call (args := #[pt q 0]) (R := fun res xw => res = .bool false ∧ w = xw) rfl rfl rfl (by kernel_rfl) (by kernel_rfl) (Try.call32 _ _) (rszeroT q g ep cv fl hz w hq) (by rintro e x ⟨rfl, rfl⟩; exact ⟨_, rfl, ⟨rfl, rfl⟩⟩)) ?_; clear h7
 rintro _ _ a8 ⟨rfl, rfl⟩ h8
 refine pl_nil ?_
 refine co_then ?_
 refine co_false h8 rfl ?_
 refine wp_skip ?_
 refine co_then ?_
 refine co_seq ?_
 refine co_reg ?_
 refine pk0 (v := .int .i64 0) h8 rfl fun a11 h11 => ?_; clear h8
 obtain ⟨kp12, hkp13⟩ : ∃ z : Int, z = (if 0 < 0 then 0 else 0) := ⟨_, rfl⟩
 have hq14 : kp12 ≥ 0 ∧ kp12 ≥ 0 ∧ (kp12 = 0 ∨ kp12 = 0) := by rw [hkp13]; split <;> omega
 refine pk (v := .int .i64 kp12) h11 rfl (by rw [hkp13]; kernel_rfl) fun a15 h15 => ?_; clear h11
 refine pk0 (v := .int .i64 kp12) h15 rfl fun a16 h16 => ?_; clear h15
 refine pl_nil ?_
 refine co_then ?_
 refine co_seq ?_
 refine co_reg ?_
 refine pk0 (v := .int .i64 9) h16 rfl fun a17 h17 => ?_; clear h16
 refine pk0 (v := pt q 0) h17 rfl fun a18 h18 => ?_; clear h17
 refine pk0 (v := pt q 0) h18 rfl fun a19 h19 => ?_; clear h18
 refine pk0 (v := pt q 0) h19 rfl fun a20 h20 => ?_; clear h19
 refine pk (v := pt g 0) h20 rfl (rn_load1 rfl rfl Try.isAgg77 (hq.cell rfl)) fun a21 h21 => ?_; clear h20
 refine pw h21 rfl (op_call (args := #[pt g 0]) (R := fun res xw => ∃ S' : Nat → Prop, res = .int .i64 1 ∧ LObj S' xw g [enA v 5] ∧ Grew S S' w xw) rfl rfl rfl (by kernel_rfl) (by kernel_rfl) (Try.call41 _ _) (tStamped w hL) (by rintro e x ⟨S', h0, h⟩; exact ⟨_, h0, S', rfl, h⟩)) ?_; clear h21
 rintro _ w23 a22 ⟨S24, rfl, hO25, hx26⟩ h22
 have hB27 := fbU_foot hB0 hx26.but (fun i hi hq => by rcases hinS i hq with k | k; (first | exact k | exact .inl k | exact .inr k); omega)
 have hz28 := hB27.size
 have hz29 := hx26.but.size
 have hin30 : ∀ k, S24 k → (S k) ∨ w.heap.size ≤ k := fun k hk => by rcases hx26.sub k hk with j | j; exact hinS k j; exact .inr (by omega)
 obtain ⟨kp31, hkp32⟩ : ∃ z : Int, z = (if 1 < 9 then 1 else 9) := ⟨_, rfl⟩
 have hq33 : kp31 ≤ 9 ∧ kp31 ≤ 1 ∧ (kp31 = 9 ∨ kp31 = 1) := by rw [hkp32]; split <;> omega
 refine pk (v := .int .i64 kp31) h22 rfl (by rw [hkp32]; kernel_rfl) fun a34 h34 => ?_; clear h22
 refine pk0 (v := .int .i64 kp31) h34 rfl fun a35 h35 => ?_; clear h34
 refine pl_nil ?_
 refine co_then ?_
 refine co_seq ?_
 refine co_seq ?_
 refine co_reg ?_
 refine pk0 (v := .int .i64 kp12) h35 rfl fun a36 h36 => ?_; clear h35
 refine pk0 (v := .int .i64 kp12) h36 rfl fun a37 h37 => ?_; clear h36
 refine pl_nil ?_
 refine co_then ?_
 refine wp_block ?_
 refine wp_loop_rounds 2 ?_
 refine co_unroll (n := 1) ?_
 refine co_seq ?_
 refine co_seq ?_
 refine co_reg ?_
 refine pk0 (v := .int .i64 kp12) h37 rfl fun a38 h38 => ?_; clear h37
 refine pk0 (v := .int .i64 kp31) h38 rfl fun a39 h39 => ?_; clear h38
 refine pk0 (v := .bool (decide (kp12 < kp31))) h39 rfl fun a40 h40 => ?_; clear h39
 refine pl_nil ?_
 refine co_then ?_
 have hc41 : (decide (kp12 < kp31)) = true := decide_eq_true (by omega)
 rw [hc41] at h40; clear hc41
 refine co_true h40 rfl ?_
 refine wp_skip ?_
 refine co_then ?_
 refine co_seq ?_
 refine wp_block ?_
 refine co_seq ?_
 refine co_reg ?_
 refine pk0 (v := pt q 0) h40 rfl fun a42 h42 => ?_; clear h40
 refine pk0 (v := pt q 0) h42 rfl fun a43 h43 => ?_; clear h42
 refine pk0 (v := pt q 0) h43 rfl fun a44 h44 => ?_; clear h43
 have hk45 := Blk.butS hq hx26.but hSq
 refine pk (v := pt g 0) h44 rfl (rn_load1 rfl rfl Try.isAgg77 (hk45.cell rfl)) fun a46 h46 => ?_; clear h44
 refine pk0 (v := .int .i64 kp12) h46 rfl fun a47 h47 => ?_; clear h46
 have hO51 := mvo_butR hV hx26.but (ap_symm hap)
 have ho50 := MvO.ofS hO51
 have ho52 := LObj.ofS hO25
 refine pw h47 rfl (op_call (args := #[pt g 0, .int .i64 kp12]) (R := fun res xw => ∃ ev : Value, ∃ S' : Nat → Prop, res = .tuple #[.agg #[.int .i64 0, .int .i64 1, ev, .int .u64 5], .bool true] ∧ LObj S' xw g [enA v 5] ∧ (xw.ownsRow w23.heap.size 74 3 ev [opA].length ([opA].flatMap opE)) ∧ (∀ q, S' q → q < w23.heap.size) ∧ Grew S24 S' w23 xw) rfl rfl rfl (by kernel_rfl) (by kernel_rfl) (Try.call42 _ _) (tAt w23 kp12 hO25) (by rintro e x ⟨ev, S', h0, h1, h2, h3, h4⟩; rw [show kp12 = (0 : Int) from by omega] at h0 h1; exact ⟨_, h0, ev, S', rfl, h2, h1, h3, h4⟩)) ?_; clear h47
 rintro _ w49 a48 ⟨ev53, S54, rfl, hO55, hq57, hq58, hx56⟩ h48
 have hk59 := Blk.butS hb hx26.but hSb
 have hB60 := fbU_foot hB27 hx56.but (fun i hi hq => by rcases hin30 i hq with k | k; (first | exact k | exact .inl k | exact .inr k); omega)
 have hz61 := hB60.size
 have hz62 := hx56.but.size
 have hin63 : ∀ k, S54 k → (S k) ∨ w.heap.size ≤ k := fun k hk => by rcases hx56.sub k hk with j | j; exact hin30 k j; exact .inr (by omega)
 refine pk0 (v := .tuple #[.agg #[.int .i64 0, .int .i64 1, ev53, .int .u64 5], .bool true]) h48 rfl fun a64 h64 => ?_; clear h48
 refine pk0 (v := .agg #[.int .i64 0, .int .i64 1, ev53, .int .u64 5]) h64 rfl fun a65 h65 => ?_; clear h64
 refine pk0 (v := .bool true) h65 rfl fun a66 h66 => ?_; clear h65
 refine pw h66 rfl (op_new (v := fun N => pt N 0) (T := 40) (cs := #[.int .i64 0, .int .i64 0, .slice none 0 0, .int .u64 0]) (by kernel_rfl) (by kernel_rfl) (by kernel_rfl)) ?_; clear h66
 rintro _ w68 a67 ⟨N69, rfl, hN72, hz73, hk71, hg70⟩ h67
 have ha74 := row_fresh hq57 hN72
 have hu75 := row_under hq57 hN72
 have hz76 := hg70.size
 have hO78 := mvo_butR hO51 hx56.but (ap_symm (Grew.ap hx26 (ap_symm (ap_symm hap)) (MvO.ofS hV)))
 have ho77 := off_new (MvO.ofS hO78) hN72
 have ho79 := off_new (LObj.ofS hO55) hN72
 try dsimp only at h67
 have hr85 := row_kept_new hq57 hg70
 refine pwD h67 rfl (op_storeN rfl rfl rfl (all_cons rfl (all_cons rfl (all_cons (row_one hr85) (all_cons rfl all_nil)))) (by kernel_rfl) hk71 rfl) ?_; clear h67
 rintro _ w81 a80 ⟨hk82, hz83, hg84⟩ h80
 have hk82' : Blk w81 N69 40 #[.int .i64 0, .int .i64 1, ev53, .int .u64 5] := hk82; clear hk82
 have hz86 := hg84.size
 refine pk0 (v := .bool true) h80 rfl fun a87 h87 => ?_; clear h80
 refine pl_nil ?_
 refine co_then ?_
 refine co_reg ?_
 refine pk0 (v := pt m 0) h87 rfl fun a88 h88 => ?_; clear h87
 refine pk0 (v := pt N69 3) h88 rfl fun a89 h89 => ?_; clear h88
 refine pk (v := .int .u64 5) h89 rfl (rn_load1 rfl rfl Try.isAgg27 (hk82'.cell rfl)) fun a90 h90 => ?_; clear h89
 refine pk0 (v := pt N69 0) h90 rfl fun a91 h91 => ?_; clear h90
 refine pk0 (v := pt N69 2) h91 rfl fun a92 h92 => ?_; clear h91
 refine pk (v := ev53) h92 rfl (rn_load1 rfl rfl Try.isAgg36 (hk82'.cell rfl)) fun a93 h93 => ?_; clear h92
 have hO97 := MvO.gr hO78 hg70 (fun k e => by cases e)
 have hO98 := MvO.gr hO97 hg84 (fun k e => by cases e; exact ho77)
 have ho96 := MvO.ofS hO98
 have hO100 := LObj.gr hO55 hg70 (fun k e => by cases e)
 have hO101 := LObj.gr hO100 hg84 (fun k e => by cases e; exact ho79)
 have ho99 := LObj.ofS hO101
 have hr102 := row_kept_at hr85 hg84 (ha74)
 have hB103 := fbU_new hB60 hg70
 have hB104 := fbU_at hB103 hg84 (fun hlt => absurd hlt (by omega))
 have hk105 := Blk.butS hk59 hx56.but (Grew.off hx26 hSb hb.lt)
 have hk106 := hk105.kept hg70 (by simp)
 have hk107 := hk106.kept hg84 (by simp; omega)
 have hk108 := Blk.butS hk45 hx56.but (Grew.off hx26 hSq hq.lt)
 have hk109 := hk108.kept hg70 (by simp)
 have hk110 := hk109.kept hg84 (by simp; omega)
 refine pw h93 rfl (op_call (args := #[pt m 0, .int .u64 5, ev53]) (R := fun res xw => ∃ S' : Nat → Prop, res = .int .i64 (mvE 0 5 [opA]) ∧ MvO S' xw m (mvF (fun _ => []) 0 5 [opA]) (mvLa 0 5 [opA]) (mvCe 0 5 0 [opA]) 1 ∧ Grew D S' w81 xw) rfl rfl rfl (by kernel_rfl) (by kernel_rfl) (Try.call43 _ _) (mvPut w81 5 ev53 [opA] hO98 (row_sl hr102 opE_len) (fun _ => (offR_row ho50 hr102 (Nat.le_refl _))) (by decide) (by decide) (by decide)) (by rintro e x ⟨S', h0, h⟩; exact ⟨_, h0, S', rfl, h⟩)) ?_; clear h93
 rintro _ w95 a94 ⟨S111, rfl, hO112, hx113⟩ h94
 have hB114 := fbU_foot hB104 hx113.but (fun i hi hq => by rcases hinD i hq with k | k; (first | exact k | exact .inl k | exact .inr k); omega)
 have hz115 := hB114.size
 have hz116 := hx113.but.size
 have hin117 : ∀ k, S111 k → (D k) ∨ w.heap.size ≤ k := fun k hk => by rcases hx113.sub k hk with j | j; exact hinD k j; exact .inr (by omega)
 refine pl_nil ?_
 refine co_blockN ?_
 refine co_then ?_
 refine co_reg ?_
 refine pk0 (v := .int .i64 kp12) h94 rfl fun a118 h118 => ?_; clear h94
 refine pk (v := .int .i64 (kp12 + 1)) h118 rfl (rn_arith rfl rfl rfl rfl rfl rfl (IntWalk.i64_in _ (by omega))) fun a119 h119 => ?_; clear h118
 refine pk0 (v := .int .i64 (kp12 + 1)) h119 rfl fun a120 h120 => ?_; clear h119
 refine pl_nil ?_
 refine co_then ?_
 refine co_unroll (n := 0) ?_
 refine co_seq ?_
 refine co_seq ?_
 refine co_reg ?_
 refine pk0 (v := .int .i64 (kp12 + 1)) h120 rfl fun a121 h121 => ?_; clear h120
 refine pk0 (v := .int .i64 kp31) h121 rfl fun a122 h122 => ?_; clear h121
 refine pk0 (v := .bool (decide (kp12 + 1 < kp31))) h122 rfl fun a123 h123 => ?_; clear h122
 refine pl_nil ?_
 refine co_then ?_
 have hc124 : (decide (kp12 + 1 < kp31)) = false := decide_eq_false (by omega)
 rw [hc124] at h123; clear hc124
 refine co_false h123 rfl ?_
 refine wp_exit ?_
 refine co_thenX ?_
 refine co_thenX ?_
 refine co_blockX ?_
 refine co_then ?_
 refine co_seq ?_
 refine co_reg ?_
 refine pk0 (v := .int .i64 kp12) h123 rfl fun a125 h125 => ?_; clear h123
 refine pk0 (v := .int .i64 kp31) h125 rfl fun a126 h126 => ?_; clear h125
 obtain ⟨kp127, hkp128⟩ : ∃ z : Int, z = (if kp12 < kp31 then kp31 else kp12) := ⟨_, rfl⟩
 have hq129 : kp127 ≥ kp12 ∧ kp127 ≥ kp31 ∧ (kp127 = kp12 ∨ kp127 = kp31) := by rw [hkp128]; split <;> omega
 refine pk (v := .int .i64 kp127) h126 rfl (by rw [hkp128]; kernel_rfl) fun a130 h130 => ?_; clear h126
 refine pk0 (v := .int .i64 kp127) h130 rfl fun a131 h131 => ?_; clear h130
 refine pl_nil ?_
 refine co_then ?_
 refine wp_ret ?_
 refine co_ret1 h131 rfl rfl ?_
 have hO132 := LObj.butA hO101 hx113.but (ap_symm (ap_symm (Grew.ap hx56 (ap_symm (ap_symm (Grew.ap hx26 (ap_symm (ap_symm hap)) (MvO.ofS hV)))) (MvO.ofS hO51))))
 exact ⟨_, _, ret_int (by omega), hO132, hO112, hin63, hin117, (ap_symm (Grew.ap hx113 (ap_symm (ap_symm (ap_symm (Grew.ap hx56 (ap_symm (ap_symm (Grew.ap hx26 (ap_symm (ap_symm hap)) (MvO.ofS hV)))) (MvO.ofS hO51))))) (LObj.ofS hO101))), hB114⟩
end Go.Proofs.Ytkjnhghniopnoaa

/- Package rstate: a state as an object; New, Apply, Stamped; with a store: Feed of one entry. Conditions: none. -/
namespace Go.Proofs.Ytkjnhghniopnoaa
open Go.RowKit Go.PlainAid
set_option linter.unusedVariables false
set_option linter.unusedSimpArgs false

/-- A state that lies at b: entries, epoch, horizon. -/
def StO (S : Nat → Prop) (w : World) (b : Nat) (L : List EntT) (ep hz : Int) : Prop :=
  ∃ (q g : Nat) (A : Nat → Prop) (cv : Value) (ms : List MemT) (fl : Int), Blk w b 68 #[pt q 0] ∧ Blk w q 80 #[pt g 0, .int .i64 ep, cv, .int .u64 fl, .int .u64 hz] ∧ LObj A w g L ∧
    w.ownsRow 0 117 2 cv ms.length (ms.flatMap memE) ∧ ms.length ≤ 20 ∧ (∀ i, cv.ownBlock = some i → ¬ A i) ∧ ¬ A b ∧ ¬ A q ∧ b ≠ q ∧ RI L ∧ (∀ k, S k ↔ (k = b ∨ k = q ∨ A k ∨ cv.ownBlock = some k))
section
variable {S D A : Nat → Prop} {w x : World} {b m n : Nat} {L : List EntT} {ep hz la ce : Int} {f : Fv}
theorem StO.ofS (h : StO S w b L ep hz) : ∀ k, S k → k < w.heap.size := by
  obtain ⟨q, g, A, cv, ms, fl, h1, h2, h3, h4, h5, h6, h7, h8, h9, h10, h11⟩ := h
  intro k hk
  rcases (h11 k).1 hk with rfl | rfl | hk | hk
  · exact h1.lt
  · exact h2.lt
  · exact h3.ofS k hk
  · exact (h4.lt k hk).2
theorem StO.keep (h : StO S w b L ep hz) (hk : ∀ k, S k → x.heap[k]? = w.heap[k]?) (hz' : w.heap.size ≤ x.heap.size) : StO S x b L ep hz := by
  obtain ⟨q, g, A, cv, ms, fl, h1, h2, h3, h4, h5, h6, h7, h8, h9, h10, h11⟩ := h
  refine ⟨q, g, A, cv, ms, fl, ?_, ?_, h3.keep hz' (fun k j => hk k ((h11 k).2 (.inr (.inr (.inl j))))), row_sameL h4 (fun i hi => hk i ((h11 i).2 (.inr (.inr (.inr hi))))), h5, h6, h7, h8, h9, h10, h11⟩
  · unfold Blk at h1 ⊢; rw [hk b ((h11 b).2 (.inl rfl))]; exact h1
  · unfold Blk at h2 ⊢; rw [hk q ((h11 q).2 (.inr (.inl rfl)))]; exact h2
theorem StO.gr {row : Option Nat} (h : StO S w b L ep hz) (hg : w.grownBy x row) (hr : ∀ k, row = some k → ¬ S k) : StO S x b L ep hz :=
  h.keep (fun q hq => hg.block q (h.ofS q hq) (fun e => hr q e.symm hq)) hg.size
theorem StO.but (h : StO S w b L ep hz) (hb : But D w x) (ha : ∀ q, S q → D q → False) : StO S x b L ep hz :=
  h.keep (fun q hq => hb.block q (h.ofS q hq) (fun hd => ha q hq hd)) hb.size
theorem StO.ri (h : StO S w b L ep hz) : RI L := by obtain ⟨_, _, _, _, _, _, _, _, _, _, _, _, _, _, _, h10, _⟩ := h; exact h10
theorem stNew (w : World) : Calls Try.prog 8 #[] w fun e w' => ∃ (N : Nat) (S : Nat → Prop), e = .returned (pt N 0) ∧ StO S w' N [] 0 0 ∧ (∀ k, S k → w.heap.size ≤ k) ∧ Below w.heap.size w w' := by
  refine (rsNew_blk w).mono ?_
  rintro e x ⟨b, q, g, A, rfl, h1, h2, h3, h4, h5, h6, h7, h8, h9⟩
  refine ⟨b, fun k => k = b ∨ k = q ∨ A k ∨ (Value.slice none 0 0).ownBlock = some k, rfl, ⟨q, g, A, .slice none 0 0, [], 0, h1, h2, h3, World.ownsRow_nil _ _ _ _, by decide, (fun i hi => by simp [Value.ownBlock] at hi), h4, h5, ?_, RI.nil, fun k => Iff.rfl⟩, ?_, h9⟩
  · intro e
    subst e
    unfold Blk at h1 h2
    rw [h1] at h2
    injection h2 with e; injection e with e1 e2 e3
    exact absurd e2 (by decide)
  · rintro k (rfl | rfl | hk | hk)
    · exact h7
    · exact h8
    · exact h6 k hk
    · simp [Value.ownBlock] at hk
theorem stApply (w : World) (d : NoteD) (mv lv ev : Value) (h : StO S w b L ep hz) (hm : SliceOf memE 2 w mv d.ms) (hg : SliceOf (intE .i64) 1 w lv d.lg) (he : SliceOf opE 3 w ev d.el) (hR : NoteR d)
    (hbm : d.ms ≠ [] → ∀ k, mv.ownBlock = some k → ¬ S k) (hbg : d.lg ≠ [] → ∀ k, lv.ownBlock = some k → ¬ S k) (hbe : d.el ≠ [] → ∀ k, ev.ownBlock = some k → ¬ S k) :
    Calls Try.prog 11 #[pt b 0, .agg #[.int .i64 d.k, .int .i64 d.n, .int .u64 d.t, .int .i64 d.ep, mv, .int .u64 d.fl, lv, .int .i64 d.ec, .int .i64 d.er, ev, .int .u64 d.ets, .int .i64 d.pid, .int .u64 d.pat, .int .i64 d.plf, .int .i64 d.sc, .int .i64 d.sr, .int .i64 d.se, .int .i64 d.sp]] w fun e w' =>
      ∃ (r : Int) (L' : List EntT) (ep' hz' : Int) (S' : Nat → Prop), e = .returned (.int .i64 r) ∧ StO S' w' b L' ep' hz' ∧ ApR d ep hz L r ep' hz' L' ∧ Grew S S' w w' := by
  obtain ⟨q, g, A, cv, ms, fl, h1, h2, h3, h4, h5, h6, h7, h8, h9, h10, h11⟩ := h
  have hf : ∀ k, (k = q ∨ A k) → S k := fun k hk => (h11 k).2 (by rcases hk with e | hk; exact .inr (.inl e); exact .inr (.inr (.inl hk)))
  refine (rsApply_blk b q g A L ep cv ms fl hz d mv lv ev w h1 h2 h3 h7 h8 h4 h6 h5 h10 h9 hm hg he hR (fun hn k hk hj => hbm hn k hk (hf k hj)) (fun hn k hk hj => hbg hn k hk (hf k hj)) (fun hn k hk hj => hbe hn k hk (hf k hj))).mono ?_
  rintro e x ⟨r, A', L', ep', cv', ms', fl', hz', rfl, k1, k2, k3, k4, k5, k6, k7, k8, k9, k10⟩
  refine ⟨r, L', ep', hz', fun k => k = b ∨ k = q ∨ A' k ∨ cv'.ownBlock = some k, rfl, ⟨q, g, A', cv', ms', fl', h1.butS k10 ?_, k1, k2, k3, k4, k5, ?_, k7, h9, k8.ri h10, fun k => Iff.rfl⟩, k8, fun k hk => ?_, k10.mono fun k _ hk => hf k hk⟩
  · rintro (e | e); exact h9 e; exact h7 e
  · intro hb
    rcases k6 b hb with (e | e) | e
    · exact h9 e
    · exact h7 e
    · have := h1.lt; omega
  · rcases hk with rfl | rfl | hk | hk
    · exact .inl ((h11 _).2 (.inl rfl))
    · exact .inl ((h11 _).2 (.inr (.inl rfl)))
    · rcases k6 k hk with e | e
      · exact .inl (hf k e)
      · exact .inr e
    · rcases k9 k hk with e | e
      · exact .inl ((h11 k).2 (.inr (.inr (.inr e))))
      · exact .inr e
theorem stStamped (w : World) (h : StO S w b L ep hz) : Calls Try.prog 19 #[pt b 0] w fun e w' => ∃ S' : Nat → Prop, e = .returned (.int .i64 (stN L : Nat)) ∧ StO S' w' b L ep hz ∧ Grew S S' w w' := by
  obtain ⟨q, g, A, cv, ms, fl, h1, h2, h3, h4, h5, h6, h7, h8, h9, h10, h11⟩ := h
  refine (rsStamped_blk b q g A L ep cv fl hz w h1 h2 h3 h7 h8).mono ?_
  rintro e x ⟨A', rfl, k1, k2, k3⟩
  have hn : ∀ k, k < w.heap.size → ¬ A k → ¬ A' k := fun k hk hA hj => by
    rcases k2 k hj with e | e
    · exact hA e
    · omega
  refine ⟨fun k => k = b ∨ k = q ∨ A' k ∨ cv.ownBlock = some k, rfl, ⟨q, g, A', cv, ms, fl, h1.butS k3 h7, h2.butS k3 h8, k1, own_butS h4 k3 h6, h5, fun i hi => hn i (h4.lt i hi).2 (h6 i hi), hn b h1.lt h7, hn q h2.lt h8, h9, h10, fun k => Iff.rfl⟩, fun k hk => ?_, k3.mono fun k _ hk => (h11 k).2 (.inr (.inr (.inl hk)))⟩
  rcases hk with rfl | rfl | hk | hk
  · exact .inl ((h11 _).2 (.inl rfl))
  · exact .inl ((h11 _).2 (.inr (.inl rfl)))
  · rcases k2 k hk with e | e
    · exact .inl ((h11 k).2 (.inr (.inr (.inl e))))
    · exact .inr e
  · exact .inl ((h11 k).2 (.inr (.inr (.inr hk))))
/-- A state and a store. -/
def TwS (S : Nat → Prop) (w : World) (b m : Nat) (L : List EntT) (ep hz : Int) (f : Fv) (la ce : Int) (n : Nat) : Prop :=
  ∃ A D, StO A w b L ep hz ∧ MvO D w m f la ce n ∧ (∀ k, A k → D k → False) ∧ ∀ k, S k ↔ (A k ∨ D k)
theorem TwS.ofS (h : TwS S w b m L ep hz f la ce n) : ∀ k, S k → k < w.heap.size := by
  obtain ⟨A, D, h1, h2, h3, h4⟩ := h
  intro k hk
  rcases (h4 k).1 hk with hk | hk
  · exact h1.ofS k hk
  · exact h2.ofS k hk
theorem TwS.keep (h : TwS S w b m L ep hz f la ce n) (hk : ∀ k, S k → x.heap[k]? = w.heap[k]?) (hz' : w.heap.size ≤ x.heap.size) : TwS S x b m L ep hz f la ce n := by
  obtain ⟨A, D, h1, h2, h3, h4⟩ := h
  exact ⟨A, D, h1.keep (fun k hA => hk k ((h4 k).2 (.inl hA))) hz', h2.keep (fun k hD => hk k ((h4 k).2 (.inr hD))) hz', h3, h4⟩
theorem TwS.gr {row : Option Nat} (h : TwS S w b m L ep hz f la ce n) (hg : w.grownBy x row) (hr : ∀ k, row = some k → ¬ S k) : TwS S x b m L ep hz f la ce n :=
  h.keep (fun q hq => hg.block q (h.ofS q hq) (fun e => hr q e.symm hq)) hg.size
theorem TwS.but (h : TwS S w b m L ep hz f la ce n) (hb : But D w x) (ha : ∀ q, S q → D q → False) : TwS S x b m L ep hz f la ce n :=
  h.keep (fun q hq => hb.block q (h.ofS q hq) (fun hd => ha q hq hd)) hb.size
theorem TwS.re {A D A' : Nat → Prop} {L' : List EntT} {ep' hz' : Int} (h2 : MvO D w m f la ce n) (h3 : ∀ k, A k → D k → False) (h4 : ∀ k, S k ↔ (A k ∨ D k)) (k1 : StO A' x b L' ep' hz') (g : Grew A A' w x) :
    ∃ S', TwS S' x b m L' ep' hz' f la ce n ∧ Grew S S' w x :=
  ⟨fun k => A' k ∨ D k, ⟨A', D, k1, h2.but g.but (fun q h5 h6 => h3 q h5 h6), fun k h5 h6 => (g.sub k h5).elim (fun j => h3 k j h6) (fun j => by have := h2.ofS k h6; omega), fun k => Iff.rfl⟩, fun k hk => by
    rcases hk with hk | hk
    · exact (g.sub k hk).imp (fun j => (h4 k).2 (.inl j)) id
    · exact .inl ((h4 k).2 (.inr hk)), g.but.mono fun k _ hk => (h4 k).2 (.inl hk)⟩
theorem twNew (w : World) (h : StO S w b L ep hz) : Calls Try.prog 14 #[] w fun e w' => ∃ (N : Nat) (S' : Nat → Prop), e = .returned (pt N 0) ∧ TwS S' w' b N L ep hz (fun _ => []) 0 0 0 ∧ Grew S S' w w' := by
  refine (mvNew w).mono ?_
  rintro e x ⟨N, D, rfl, k1, k2, k3⟩
  refine ⟨N, fun k => S k ∨ D k, rfl, ⟨S, D, h.gr (below_grown k3) (fun k e => by cases e), k1, fun k h1 h2 => by have := h.ofS k h1; have := k2 k h2; omega, fun k => Iff.rfl⟩, fun k hk => hk.imp id (k2 k), ?_⟩
  exact But.of_below k3
theorem twStamped (w : World) (h : TwS S w b m L ep hz f la ce n) : Calls Try.prog 19 #[pt b 0] w fun e w' => ∃ S' : Nat → Prop, e = .returned (.int .i64 (stN L : Nat)) ∧ TwS S' w' b m L ep hz f la ce n ∧ Grew S S' w w' := by
  obtain ⟨A, D, h1, h2, h3, h4⟩ := h
  refine (stStamped w h1).mono ?_
  rintro e x ⟨A', rfl, k1, g⟩
  obtain ⟨S', q1, q2⟩ := TwS.re h2 h3 h4 k1 g
  exact ⟨S', rfl, q1, q2⟩
theorem twApply (w : World) (d : NoteD) (mv lv ev : Value) (h : TwS S w b m L ep hz f la ce n) (hm : SliceOf memE 2 w mv d.ms) (hg : SliceOf (intE .i64) 1 w lv d.lg) (he : SliceOf opE 3 w ev d.el) (hR : NoteR d)
    (hbm : d.ms ≠ [] → ∀ k, mv.ownBlock = some k → ¬ S k) (hbg : d.lg ≠ [] → ∀ k, lv.ownBlock = some k → ¬ S k) (hbe : d.el ≠ [] → ∀ k, ev.ownBlock = some k → ¬ S k) :
    Calls Try.prog 11 #[pt b 0, .agg #[.int .i64 d.k, .int .i64 d.n, .int .u64 d.t, .int .i64 d.ep, mv, .int .u64 d.fl, lv, .int .i64 d.ec, .int .i64 d.er, ev, .int .u64 d.ets, .int .i64 d.pid, .int .u64 d.pat, .int .i64 d.plf, .int .i64 d.sc, .int .i64 d.sr, .int .i64 d.se, .int .i64 d.sp]] w fun e w' =>
      ∃ (r : Int) (L' : List EntT) (ep' hz' : Int) (S' : Nat → Prop), e = .returned (.int .i64 r) ∧ TwS S' w' b m L' ep' hz' f la ce n ∧ ApR d ep hz L r ep' hz' L' ∧ Grew S S' w w' := by
  obtain ⟨A, D, h1, h2, h3, h4⟩ := h
  refine (stApply w d mv lv ev h1 hm hg he hR (fun hn k hk hj => hbm hn k hk ((h4 k).2 (.inl hj))) (fun hn k hk hj => hbg hn k hk ((h4 k).2 (.inl hj))) (fun hn k hk hj => hbe hn k hk ((h4 k).2 (.inl hj)))).mono ?_
  rintro e x ⟨r, L', ep', hz', A', rfl, k1, k2, g⟩
  obtain ⟨S', q1, q2⟩ := TwS.re h2 h3 h4 k1 g
  exact ⟨r, L', ep', hz', S', rfl, q1, k2, q2⟩
theorem twGet (w : World) (k : ByteArray) (t : Int) (h : TwS S w b m L ep hz f la ce n) :
    Calls Try.prog 28 #[pt m 0, .string k, .int .u64 t] w fun e w' => e = .returned (.tuple #[.string (atS (f k) t).1, .bool (atS (f k) t).2]) ∧ Below w.heap.size w w' := by
  obtain ⟨A, D, h1, h2, h3, h4⟩ := h
  exact mvGet w k t h2
theorem twFeed1 (w : World) (v : Value) (h : TwS S w b m [enA v 5] ep hz (fun _ => []) 0 0 0) :
    Calls Try.prog 15 #[pt b 0, pt m 0, .int .i64 0, .int .i64 9] w fun e w' => ∃ S' : Nat → Prop, e = .returned (.int .i64 1) ∧ TwS S' w' b m [enA v 5] ep hz (mvF (fun _ => []) 0 5 [opA]) (mvLa 0 5 [opA]) (mvCe 0 5 0 [opA]) 1 ∧ Grew S S' w w' := by
  obtain ⟨A0, D, ⟨q, g, A, cv, ms, fl, h1, h2, h3, h4, h5, h6, h7, h8, h9, h10, h11⟩, i2, i3, i4⟩ := h
  have dA : ∀ k, A k → D k → False := fun k ha hd => i3 k ((h11 k).2 (.inr (.inr (.inl ha)))) hd
  have dv : ∀ k, cv.ownBlock = some k → ¬ D k := fun k ha hd => i3 k ((h11 k).2 (.inr (.inr (.inr ha)))) hd
  have db : ¬ D b := fun hd => i3 b ((h11 b).2 (.inl rfl)) hd
  have dq : ¬ D q := fun hd => i3 q ((h11 q).2 (.inr (.inl rfl))) hd
  refine (rsFeed1_blk b q g A v ep cv fl hz m D w h1 h2 h3 h7 h8 i2 dA db dq).mono ?_
  rintro e x ⟨A', D', rfl, k1, k2, k3, k4, k5, k6⟩
  have hn : ∀ k, k < w.heap.size → ¬ A k → ¬ A' k := fun k hk hA hj => by
    rcases k3 k hj with e | e
    · exact hA e
    · omega
  have hd : ∀ k, k < w.heap.size → ¬ D k → ¬ D' k := fun k hk hA hj => by
    rcases k4 k hj with e | e
    · exact hA e
    · omega
  refine ⟨fun k => (k = b ∨ k = q ∨ A' k ∨ cv.ownBlock = some k) ∨ D' k, rfl, ⟨fun k => k = b ∨ k = q ∨ A' k ∨ cv.ownBlock = some k, D', ⟨q, g, A', cv, ms, fl, h1.butS k6 (by rintro (e | e); exact h7 e; exact db e), h2.butS k6 (by rintro (e | e); exact h8 e; exact dq e), k1, own_butS h4 k6 (fun i hi => by rintro (e | e); exact h6 i hi e; exact dv i hi e), h5, fun i hi => hn i (h4.lt i hi).2 (h6 i hi), hn b h1.lt h7, hn q h2.lt h8, h9, h10, fun k => Iff.rfl⟩, k2, ?_, fun k => Iff.rfl⟩, fun k hk => ?_, k6.mono fun k _ hk => (i4 k).2 (hk.imp (fun j => (h11 k).2 (.inr (.inr (.inl j)))) id)⟩
  · rintro k (rfl | rfl | hk | hk) hD
    · exact hd _ h1.lt db hD
    · exact hd _ h2.lt dq hD
    · exact k5 k hk hD
    · exact hd k (h4.lt k hk).2 (dv k hk) hD
  · rcases hk with (rfl | rfl | hk | hk) | hk
    · exact .inl ((i4 _).2 (.inl ((h11 _).2 (.inl rfl))))
    · exact .inl ((i4 _).2 (.inl ((h11 _).2 (.inr (.inl rfl)))))
    · rcases k3 k hk with e | e
      · exact .inl ((i4 k).2 (.inl ((h11 k).2 (.inr (.inr (.inl e))))))
      · exact .inr e
    · exact .inl ((i4 k).2 (.inl ((h11 k).2 (.inr (.inr (.inr hk))))))
    · rcases k4 k hk with e | e
      · exact .inl ((i4 k).2 (.inr e))
      · exact .inr e
end
end Go.Proofs.Ytkjnhghniopnoaa

/- Package rstate: Horizon, Conf, All of one that was made. Conditions: none. -/
namespace Go.Proofs.Ytkjnhghniopnoaa
open Go.RowKit Go.PlainAid
set_option linter.unusedVariables false
set_option linter.unusedSimpArgs false

set_option maxRecDepth 100000 in
theorem rsHorizonT (b : Nat) (q : Nat) (g : Nat) (ep : Int) (cv : Value) (fl : Int) (hz : Int) (w : World) (hb : Blk w b 68 #[pt q 0]) (hq : Blk w q 80 #[pt g 0, .int .i64 ep, cv, .int .u64 fl, .int .u64 hz]) :
    Calls Try.prog 9 #[pt b 0] w fun e w' => e = .returned (.int .u64 hz) ∧ w = w' := by
 have hB0 := Below.refl w.heap.size w
 have hl_hb := hb.lt
 have hl_hq := hq.lt
 refine co_enter (n := 8) Try.func9 rfl rfl rfl [(0, pt b 0)] rfl (fun a h0 => ?_)
 refine co_seq ?_
 refine co_reg ?_
 refine pk0 (v := .int .u64 0) h0 rfl fun a1 h1 => ?_; clear h0
 refine pl_nil ?_
 refine co_then ?_
 refine co_seq ?_
 refine co_reg ?_
 refine pk0 (v := pt b 0) h1 rfl fun a2 h2 => ?_; clear h1
 refine pw h2 rfl (op_call (args := #[pt b 0]) (R := fun res xw => res = pt q 0 ∧ w = xw) rfl rfl rfl (by kernel_rfl) (by kernel_rfl) (Try.call30 _ _) (rsgetT b q w hb) (by rintro e x ⟨rfl, rfl⟩; exact ⟨_, rfl, ⟨rfl, rfl⟩⟩)) ?_; clear h2
 rintro _ _ a3 ⟨rfl, rfl⟩ h3
 refine pk0 (v := pt q 0) h3 rfl fun a6 h6 => ?_; clear h3
 refine pk0 (v := pt q 4) h6 rfl fun a7 h7 => ?_; clear h6
 refine pk (v := .int .u64 hz) h7 rfl (rn_load1 rfl rfl Try.isAgg27 (hq.cell rfl)) fun a8 h8 => ?_; clear h7
 refine pk0 (v := .int .u64 hz) h8 rfl fun a9 h9 => ?_; clear h8
 refine pl_nil ?_
 refine co_then ?_
 refine wp_ret ?_
 refine co_ret1 h9 rfl rfl ?_
 exact ⟨rfl, rfl⟩
set_option maxRecDepth 100000 in
theorem rsConfT (b : Nat) (q : Nat) (g : Nat) (ep : Int) (cv : Value) (fl : Int) (hz : Int) (ms : List MemT) (w : World) (hb : Blk w b 68 #[pt q 0]) (hq : Blk w q 80 #[pt g 0, .int .i64 ep, cv, .int .u64 fl, .int .u64 hz]) (hs : SliceOf memE 2 w cv ms) (hms : ms.length ≤ 20) :
    Calls Try.prog 10 #[pt b 0] w fun e w' => ∃ (u : Value), e = .returned (.agg #[.int .i64 ep, u, .int .u64 fl]) ∧ w'.ownsRow w.heap.size 117 2 u ms.length (ms.flatMap memE) ∧ Below w.heap.size w w' := by
 have hB0 := Below.refl w.heap.size w
 have hl_hb := hb.lt
 have hl_hq := hq.lt
 have hl_hs := sl_len hs
 refine co_enter (n := 9) Try.func10 rfl rfl rfl [(0, pt b 0)] rfl (fun a h0 => ?_)
 refine co_seq ?_
 refine co_reg ?_
 refine pw h0 rfl (op_new (v := fun N => pt N 0) (T := 31) (cs := #[.int .i64 0, .slice none 0 0, .int .u64 0]) (by kernel_rfl) (by kernel_rfl) (by kernel_rfl)) ?_; clear h0
 rintro _ w2 a1 ⟨N3, rfl, hN6, hz7, hk5, hg4⟩ h1
 have hz8 := hg4.size
 try dsimp only at h1
 refine pl_nil ?_
 refine co_then ?_
 refine co_seq ?_
 refine co_reg ?_
 refine pk0 (v := pt b 0) h1 rfl fun a9 h9 => ?_; clear h1
 have hk12 := hb.kept hg4 (by simp)
 refine pw h9 rfl (op_call (args := #[pt b 0]) (R := fun res xw => res = pt q 0 ∧ w2 = xw) rfl rfl rfl (by kernel_rfl) (by kernel_rfl) (Try.call30 _ _) (rsgetT b q w2 hk12) (by rintro e x ⟨rfl, rfl⟩; exact ⟨_, rfl, ⟨rfl, rfl⟩⟩)) ?_; clear h9
 rintro _ _ a10 ⟨rfl, rfl⟩ h10
 refine pk0 (v := pt q 0) h10 rfl fun a14 h14 => ?_; clear h10
 refine pk0 (v := pt q 1) h14 rfl fun a15 h15 => ?_; clear h14
 have hk16 := hq.kept hg4 (by simp)
 refine pk (v := .agg #[.int .i64 ep, cv, .int .u64 fl]) h15 rfl (rn_loadN rfl rfl Try.underlying31 rfl (by kernel_rfl) (blk_part hk16 1 (by rfl))) fun a17 h17 => ?_; clear h15
 have hB20 := hb_new hB0 hg4
 refine pw h17 rfl (op_call (args := #[.agg #[.int .i64 ep, cv, .int .u64 fl]]) (R := fun res xw => ∃ u : Value, res = .agg #[.int .i64 ep, u, .int .u64 fl] ∧ xw.ownsRow w2.heap.size 117 2 u ms.length (ms.flatMap memE) ∧ Below w2.heap.size w2 xw) rfl rfl rfl (by kernel_rfl) (by kernel_rfl) (Try.call31 _ _) (freshConf_any ep fl cv ms w2 (hs.below hB20) (by first | omega | (simp; done) | (simp; omega))) (by rintro e x ⟨u, rfl, hq22, hb23⟩; exact ⟨_, rfl, ⟨u, rfl, hq22, hb23⟩⟩)) ?_; clear h17
 rintro _ w19 a18 ⟨u21, rfl, hq22, hb23⟩ h18
 have hz24 := hb23.size
 have hl25 := sl_len (row_sl hq22 memE_len)
 have hk31 := hk5.below hb23
 refine pwD h18 rfl (op_storeN rfl rfl rfl (all_cons rfl (all_cons (row_one hq22) (all_cons rfl all_nil))) (by kernel_rfl) hk31 rfl) ?_; clear h18
 rintro _ w27 a26 ⟨hk28, hz29, hg30⟩ h26
 have hk28' : Blk w27 N3 31 #[.int .i64 ep, u21, .int .u64 fl] := hk28; clear hk28
 have hz32 := hg30.size
 refine pl_nil ?_
 refine co_then ?_
 refine wp_ret ?_
 refine co_retC (Q := fun _ _ _ => True) h26 rfl rfl hk28' Try.underlying31 rfl (by kernel_rfl) ?_
 have hr33 := row_kept_at hq22 hg30 (own_neT hq22 hk31 (by decide))
 have hB34 := hb_call hB20 hb23
 have hB35 := hb_at hB34 hg30 (by omega)
 exact ⟨_, rfl, (row_lows hr33 (by omega)), hB35⟩
set_option maxRecDepth 100000 in
theorem rsAll_blk (b : Nat) (q : Nat) (g : Nat) (S : Nat → Prop) (L : List EntT) (ep : Int) (cv : Value) (fl : Int) (hz : Int) (w : World) (hb : Blk w b 68 #[pt q 0]) (hq : Blk w q 80 #[pt g 0, .int .i64 ep, cv, .int .u64 fl, .int .u64 hz]) (hL : LObj S w g L) (hSb : ¬ S b) (hSq : ¬ S q) :
    Calls Try.prog 13 #[pt b 0] w fun e w' => ∃ (L2 : List EntT) (u2 : Value) (S' : Nat → Prop), e = .returned (u2) ∧ w'.ownsRow w.heap.size 40 4 u2 L2.length (L2.flatMap entE) ∧ EntsK (fun _ => False) w.heap.size w' L2 ∧ L2.map e0 = L.map e0 ∧ LObj S' w' g L ∧ (∀ k, S' k → S k ∨ w.heap.size ≤ k) ∧ But (S) w w' := by
 have hlq := hq.lt
 have hlb := hb.lt
 have hB0 := But.refl (S) w
 have hl_hb := hb.lt
 have hl_hq := hq.lt
 have hinS : ∀ k, S k → S k ∨ w.heap.size ≤ k := fun k hk => .inl hk
 refine co_enter (n := 9) Try.func13 rfl rfl rfl [(0, pt b 0)] rfl (fun a h0 => ?_)
 refine co_seq ?_
 refine co_reg ?_
 refine pk0 (v := .slice none 0 0) h0 rfl fun a1 h1 => ?_; clear h0
 refine pl_nil ?_
 refine co_then ?_
 refine co_seq ?_
 refine co_reg ?_
 refine pk0 (v := pt b 0) h1 rfl fun a2 h2 => ?_; clear h1
 refine pw h2 rfl (op_call (args := #[pt b 0]) (R := fun res xw => res = pt q 0 ∧ w = xw) rfl rfl rfl (by kernel_rfl) (by kernel_rfl) (Try.call30 _ _) (rsgetT b q w hb) (by rintro e x ⟨rfl, rfl⟩; exact ⟨_, rfl, ⟨rfl, rfl⟩⟩)) ?_; clear h2
 rintro _ _ a3 ⟨rfl, rfl⟩ h3
 refine pk0 (v := pt q 0) h3 rfl fun a6 h6 => ?_; clear h3
 refine pk0 (v := pt q 0) h6 rfl fun a7 h7 => ?_; clear h6
 refine pk (v := pt g 0) h7 rfl (rn_load1 rfl rfl Try.isAgg77 (hq.cell rfl)) fun a8 h8 => ?_; clear h7
 refine pw h8 rfl (op_call (args := #[pt g 0]) (R := fun res xw => ∃ L2 : List EntT, ∃ u2 : Value, ∃ S' : Nat → Prop, res = u2 ∧ LObj S' xw g L ∧ (xw.ownsRow w.heap.size 40 4 u2 L2.length (L2.flatMap entE)) ∧ (EntsK (fun _ => False) w.heap.size xw L2) ∧ (L2.map e0 = L.map e0) ∧ Grew S S' w xw) rfl rfl rfl (by kernel_rfl) (by kernel_rfl) (Try.call39 _ _) (tAll w hL) (by rintro e x ⟨L2, u2, S', h0, h1, h2, h3, h4, h5, h6⟩; exact ⟨_, h0, L2, u2, S', rfl, h4, h1, h2, h3, h6⟩)) ?_; clear h8
 rintro u212 w10 a9 ⟨L211, _, S13, rfl, hO14, hq16, hq17, hq18, hx15⟩ h9
 have hB19 := fbU_foot hB0 hx15.but (fun i hi hq => by rcases hinS i hq with k | k; exact k; omega)
 have hz20 := hB19.size
 have hz21 := hx15.but.size
 have hin22 : ∀ k, S13 k → (S k) ∨ w.heap.size ≤ k := fun k hk => by rcases hx15.sub k hk with j | j; exact hinS k j; exact .inr (by omega)
 refine pk0 (v := u212) h9 rfl fun a23 h23 => ?_; clear h9
 refine pl_nil ?_
 refine co_then ?_
 refine wp_ret ?_
 refine co_ret1 h23 rfl rfl ?_
 exact ⟨_, _, _, rfl, hq16, hq17, hq18, hO14, hin22, hB19⟩
end Go.Proofs.Ytkjnhghniopnoaa

/- Package rstate: Horizon, Conf, All of a state as an object. Conditions: none. -/
namespace Go.Proofs.Ytkjnhghniopnoaa
open Go.RowKit Go.PlainAid
set_option linter.unusedVariables false
set_option linter.unusedSimpArgs false

section
variable {S D A : Nat → Prop} {w x : World} {b : Nat} {L : List EntT} {ep hz : Int}
theorem stHorizon (w : World) (h : StO S w b L ep hz) : Calls Try.prog 9 #[pt b 0] w fun e w' => e = .returned (.int .u64 hz) ∧ w = w' := by
  obtain ⟨q, g, A, cv, ms, fl, h1, h2, h3, h4, h5, h6, h7, h8, h9, h10, h11⟩ := h
  exact rsHorizonT b q g ep cv fl hz w h1 h2
theorem stConf (w : World) (h : StO S w b L ep hz) : Calls Try.prog 10 #[pt b 0] w fun e w' => ∃ (u : Value) (fl : Int), e = .returned (.agg #[.int .i64 ep, u, .int .u64 fl]) ∧ Below w.heap.size w w' := by
  obtain ⟨q, g, A, cv, ms, fl, h1, h2, h3, h4, h5, h6, h7, h8, h9, h10, h11⟩ := h
  refine (rsConfT b q g ep cv fl hz ms w h1 h2 (row_sl h4 memE_len) h5).mono ?_
  rintro e x ⟨u, rfl, _, k⟩
  exact ⟨u, fl, rfl, k⟩
theorem stAll (w : World) (h : StO S w b L ep hz) : Calls Try.prog 13 #[pt b 0] w fun e w' => ∃ (L2 : List EntT) (u2 : Value) (S' : Nat → Prop), e = .returned u2 ∧ StO S' w' b L ep hz ∧ w'.ownsRow w.heap.size 40 4 u2 L2.length (L2.flatMap entE) ∧ EntsK (fun _ => False) w.heap.size w' L2 ∧ L2.map e0 = L.map e0 ∧ Grew S S' w w' := by
  obtain ⟨q, g, A, cv, ms, fl, h1, h2, h3, h4, h5, h6, h7, h8, h9, h10, h11⟩ := h
  refine (rsAll_blk b q g A L ep cv fl hz w h1 h2 h3 h7 h8).mono ?_
  rintro e x ⟨L2, u2, A', rfl, j1, j2, j3, k1, k2, k3⟩
  have hn : ∀ k, k < w.heap.size → ¬ A k → ¬ A' k := fun k hk hA hj => by
    rcases k2 k hj with e | e
    · exact hA e
    · omega
  refine ⟨L2, u2, fun k => k = b ∨ k = q ∨ A' k ∨ cv.ownBlock = some k, rfl, ⟨q, g, A', cv, ms, fl, h1.butS k3 h7, h2.butS k3 h8, k1, own_butS h4 k3 h6, h5, fun i hi => hn i (h4.lt i hi).2 (h6 i hi), hn b h1.lt h7, hn q h2.lt h8, h9, h10, fun k => Iff.rfl⟩, j1, j2, j3, fun k hk => ?_, k3.mono fun k _ hk => (h11 k).2 (.inr (.inr (.inl hk)))⟩
  rcases hk with rfl | rfl | hk | hk
  · exact .inl ((h11 _).2 (.inl rfl))
  · exact .inl ((h11 _).2 (.inr (.inl rfl)))
  · rcases k2 k hk with e | e
    · exact .inl ((h11 k).2 (.inr (.inr (.inl e))))
    · exact .inr e
  · exact .inl ((h11 k).2 (.inr (.inr (.inr hk))))
end
end Go.Proofs.Ytkjnhghniopnoaa

/- catenalaw30: awake. Conditions: none. -/
namespace Go.Proofs.Ytkjnhghniopnoaa
open Go.RowKit Go.PlainAid
set_option linter.unusedVariables false
set_option linter.unusedSimpArgs false


def dPut : NoteD := ⟨2, 0, 0, 0, [], 0, [], 0, 1, [opA], 0, 0, 0, 0, 0, 0, 0, 0⟩
def dSta : NoteD := ⟨3, 0, 5, 0, [], 0, [], 0, 0, [], 0, 0, 0, 0, 0, 0, 0, 0⟩
def dLeg : NoteD := ⟨5, 0, 0, 0, [], 0, [], 0, 0, [], 0, 0, 0, 0, 0, 0, 0, 0⟩
theorem d3_R (d : NoteD) (h : d = dPut ∨ d = dSta ∨ d = dLeg) : NoteR d := by
  rcases h with rfl | rfl | rfl <;> exact ⟨(fun m hm => by cases hm), by decide⟩
theorem aw_ok : chkB 0 1 [opA] = 0 := by rfl
theorem c_put : chkN dPut = 0 := by rw [chkN_2 rfl]; exact aw_ok
theorem c_sta : chkN dSta = 0 := by rw [chkN_3 (.inl rfl)]; rfl
theorem c_leg : chkN dLeg = 0 := by rw [chkN_3 (.inr (.inr (.inl rfl)))]; rfl
theorem awA1 {r ep' hz' : Int} {L' : List EntT} (h : ApR dPut 0 0 [] r ep' hz' L') : r = 0 ∧ ep' = 0 ∧ hz' = 0 ∧ ∃ v, L' = [enA v 0] := by
  rcases h with ⟨_, _, h1, h2, h3, h4⟩ | ⟨_, h, _⟩ | ⟨_, h, _⟩ | ⟨_, h, _⟩ | ⟨h, _⟩
  · refine ⟨h1.trans (by rfl), h3, h4, ?_⟩
    rcases h2 with ⟨h, _⟩ | ⟨_, ⟨h, _⟩ | ⟨_, v, h⟩⟩
    · exact absurd (by rfl) h
    · cases h
    · exact ⟨v, h⟩
  · exact absurd h (by decide)
  · exact absurd h (by decide)
  · exact absurd h (by decide)
  · rcases h with ⟨h, _⟩ | ⟨_, h, _⟩ | ⟨_, _, h, _⟩
    · exact absurd c_put h
    · rcases h with ⟨h, _⟩ | ⟨h, _⟩ <;> exact absurd h (by decide)
    · exact absurd rfl h
theorem awA2 {v : Value} {r ep' hz' : Int} {L' : List EntT} (h : ApR dSta 0 0 [enA v 0] r ep' hz' L') : r = 0 ∧ ep' = 0 ∧ hz' = 0 ∧ L' = [enA v 5] := by
  rcases h with ⟨_, h, _⟩ | ⟨_, _, h1, h2, h3, h4⟩ | ⟨_, h, _⟩ | ⟨_, h, _⟩ | ⟨h, _⟩
  · exact absurd h (by decide)
  · exact ⟨h1.trans (by rfl), h3, h4, h2.trans (by rfl)⟩
  · exact absurd h (by decide)
  · exact absurd h (by decide)
  · rcases h with ⟨h, _⟩ | ⟨_, h, _⟩ | ⟨_, _, _, h, _⟩
    · exact absurd c_sta h
    · rcases h with ⟨h, _⟩ | ⟨h, _⟩ <;> exact absurd h (by decide)
    · exact absurd rfl h
theorem awA3 {v : Value} {r ep' hz' : Int} {L' : List EntT} (h : ApR dLeg 0 0 [enA v 5] r ep' hz' L') : r = 11 ∧ ep' = 0 ∧ hz' = 0 ∧ L' = [enA v 5] := by
  rcases h with ⟨_, h, _⟩ | ⟨_, h, _⟩ | ⟨_, h, _⟩ | ⟨_, h, _⟩ | ⟨h, h2, h3, h4⟩
  · exact absurd h (by decide)
  · exact absurd h (by decide)
  · exact absurd h (by decide)
  · exact absurd h (by decide)
  · rcases h with ⟨h, _⟩ | ⟨_, h, _⟩ | ⟨_, _, _, _, _, h⟩
    · exact absurd c_leg h
    · rcases h with ⟨h, _⟩ | ⟨h, _⟩ <;> exact absurd h (by decide)
    · exact ⟨h, h3, h4, h2⟩
section
variable {S : Nat → Prop} {b m n : Nat} {la ce : Int} {f : Fv}
theorem awAp1 (w : World) (ev : Value) (h : StO S w b [] 0 0) (he : SliceOf opE 3 w ev [opA]) (ho : [opA] ≠ [] → ∀ k, ev.ownBlock = some k → ¬ S k) :
    Calls Try.prog 11 #[pt b 0, .agg #[.int .i64 2, .int .i64 0, .int .u64 0, .int .i64 0, .slice none 0 0, .int .u64 0, .slice none 0 0, .int .i64 0, .int .i64 1, ev, .int .u64 0, .int .i64 0, .int .u64 0, .int .i64 0, .int .i64 0, .int .i64 0, .int .i64 0, .int .i64 0]] w fun e w' => ∃ (v : Value) (S' : Nat → Prop), e = .returned (.int .i64 0) ∧ StO S' w' b [enA v 0] 0 0 ∧ Grew S S' w w' := by
  refine (stApply w dPut (.slice none 0 0) (.slice none 0 0) ev h (sl_nil _) (sl_nil _) he (d3_R _ (.inl rfl)) (fun h => absurd rfl h) (fun h => absurd rfl h) ho).mono ?_
  rintro e x ⟨r, L', ep', hz', S', rfl, k1, k2, g⟩
  obtain ⟨rfl, rfl, rfl, v, rfl⟩ := awA1 k2
  exact ⟨v, S', rfl, k1, g⟩
theorem awAp2 (w : World) (v : Value) (h : StO S w b [enA v 0] 0 0) :
    Calls Try.prog 11 #[pt b 0, .agg #[.int .i64 3, .int .i64 0, .int .u64 5, .int .i64 0, .slice none 0 0, .int .u64 0, .slice none 0 0, .int .i64 0, .int .i64 0, .slice none 0 0, .int .u64 0, .int .i64 0, .int .u64 0, .int .i64 0, .int .i64 0, .int .i64 0, .int .i64 0, .int .i64 0]] w fun e w' => ∃ (S' : Nat → Prop), e = .returned (.int .i64 0) ∧ StO S' w' b [enA v 5] 0 0 ∧ Grew S S' w w' := by
  refine (stApply w dSta (.slice none 0 0) (.slice none 0 0) (.slice none 0 0) h (sl_nil _) (sl_nil _) (sl_nil _) (d3_R _ (.inr (.inl rfl))) (fun h => absurd rfl h) (fun h => absurd rfl h) (fun h => absurd rfl h)).mono ?_
  rintro e x ⟨r, L', ep', hz', S', rfl, k1, k2, g⟩
  obtain ⟨rfl, rfl, rfl, rfl⟩ := awA2 k2
  exact ⟨S', rfl, k1, g⟩
theorem awAp3 (w : World) (v : Value) (h : TwS S w b m [enA v 5] 0 0 f la ce n) :
    Calls Try.prog 11 #[pt b 0, .agg #[.int .i64 5, .int .i64 0, .int .u64 0, .int .i64 0, .slice none 0 0, .int .u64 0, .slice none 0 0, .int .i64 0, .int .i64 0, .slice none 0 0, .int .u64 0, .int .i64 0, .int .u64 0, .int .i64 0, .int .i64 0, .int .i64 0, .int .i64 0, .int .i64 0]] w fun e w' => ∃ (S' : Nat → Prop), e = .returned (.int .i64 11) ∧ TwS S' w' b m [enA v 5] 0 0 f la ce n ∧ Grew S S' w w' := by
  refine (twApply w dLeg (.slice none 0 0) (.slice none 0 0) (.slice none 0 0) h (sl_nil _) (sl_nil _) (sl_nil _) (d3_R _ (.inr (.inr rfl))) (fun h => absurd rfl h) (fun h => absurd rfl h) (fun h => absurd rfl h)).mono ?_
  rintro e x ⟨r, L', ep', hz', S', rfl, k1, k2, g⟩
  obtain ⟨rfl, rfl, rfl, rfl⟩ := awA3 k2
  exact ⟨S', rfl, k1, g⟩
end
theorem aw_e : mvE 0 5 [opA] = 0 := by rw [mvE_c (by decide) (by decide), aw_ok]
theorem aw_get : atS (mvF (fun _ => []) 0 5 [opA] ⟨#[97]⟩) 5 = (⟨#[49]⟩, true) := by
  have e1 : mvF (fun _ => []) 0 5 [opA] ⟨#[97]⟩ = [(5, ⟨#[49]⟩, false)] := by
    unfold mvF; rw [if_pos aw_e]
    have e : putsF (fun _ => []) 5 [opA] = upd (fun _ => []) ⟨#[97]⟩ ([] ++ [(5, ⟨#[49]⟩, false)]) := rfl
    rw [e, upd_eq]; rfl
  rw [e1]; rfl

set_option maxRecDepth 100000 in
set_option maxHeartbeats 1600000 in
theorem awake30  (w : World)  :
    Calls Try.prog 7 #[] w fun e w' => e = .returned (.bool true) ∧ Below w.heap.size w w' := by
 have hB0 := Below.refl w.heap.size w
 refine co_enter (n := 56) Try.func7 rfl rfl rfl [] rfl (fun a h0 => ?_)
 refine co_seq ?_
 refine co_reg ?_
 refine pk0 (v := .bool false) h0 rfl fun a1 h1 => ?_; clear h0
 refine pl_nil ?_
 refine co_then ?_
 refine co_seq ?_
 refine co_reg ?_
 refine pw h1 rfl (op_call (args := #[]) (R := fun res xw => ∃ N S, res = pt N 0 ∧ StO S xw N [] 0 0 ∧ (∀ q, S q → w.heap.size ≤ q) ∧ Below w.heap.size w xw) rfl rfl rfl (by kernel_rfl) (by kernel_rfl) (Try.call8 _ _) (stNew w) (by rintro e x ⟨N, S, rfl, h⟩; exact ⟨_, rfl, N, S, rfl, h⟩)) ?_; clear h1
 rintro _ w3 a2 ⟨N4, S5, rfl, hO6, hlo7, hb8⟩ h2
 have hz9 := hb8.size
 have hlo10 : ∀ q, S5 q → w.heap.size ≤ q := fun q hq => by have := hlo7 q hq; omega
 refine pk0 (v := pt N4 0) h2 rfl fun a11 h11 => ?_; clear h2
 refine pl_nil ?_
 refine co_then ?_
 refine co_seq ?_
 refine co_reg ?_
 refine pk0 (v := pt N4 0) h11 rfl fun a12 h12 => ?_; clear h11
 refine pk0 (v := .agg #[.string (⟨#[97]⟩), .string (⟨#[49]⟩), .bool false]) h12 rfl fun a13 h13 => ?_; clear h12
 refine pw h13 rfl (op_new (v := fun N => .slice (some ⟨N, 0, none⟩) 1 1) (T := 74) (cs := #[.string (⟨#[97]⟩), .string (⟨#[49]⟩), .bool false]) (by kernel_rfl) (by kernel_rfl) (by kernel_rfl)) ?_; clear h13
 rintro _ w15 a14 ⟨N16, rfl, hN19, hz20, hk18, hg17⟩ h14
 have hz21 := hg17.size
 have ho22 := off_new (StO.ofS hO6) hN19
 try dsimp only at h14
 refine pk0 (v := .agg #[.int .i64 0, .int .i64 1, .slice (some ⟨N16, 0, none⟩) 1 1]) h14 rfl fun a23 h23 => ?_; clear h14
 refine pk0 (v := .agg #[.int .i64 0, .int .i64 1, .slice (some ⟨N16, 0, none⟩) 1 1, .int .u64 0]) h23 rfl fun a24 h24 => ?_; clear h23
 refine pk0 (v := .agg #[.int .i64 2, .int .i64 0, .int .u64 0, .int .i64 0, .slice none 0 0, .int .u64 0, .slice none 0 0, .int .i64 0, .int .i64 1, .slice (some ⟨N16, 0, none⟩) 1 1, .int .u64 0, .int .i64 0, .int .u64 0, .int .i64 0, .int .i64 0, .int .i64 0, .int .i64 0, .int .i64 0]) h24 rfl fun a25 h25 => ?_; clear h24
 have hB28 := hb_call hB0 hb8
 have hB29 := hb_new hB28 hg17
 have hO31 := StO.gr hO6 hg17 (fun k e => by cases e)
 have ho30 := StO.ofS hO31
 have hr32 := row_of_cells (enc := opE) (sz := 3) ([(⟨#[97]⟩, ⟨#[49]⟩, false)] : List OpT) hk18 (Nat.le_refl _) rfl rfl (by unfold maxLen; simp)
 refine pw h25 rfl (op_call (args := #[pt N4 0, .agg #[.int .i64 2, .int .i64 0, .int .u64 0, .int .i64 0, .slice none 0 0, .int .u64 0, .slice none 0 0, .int .i64 0, .int .i64 1, .slice (some ⟨N16, 0, none⟩) 1 1, .int .u64 0, .int .i64 0, .int .u64 0, .int .i64 0, .int .i64 0, .int .i64 0, .int .i64 0, .int .i64 0]]) (R := fun res xw => ∃ v : Value, ∃ S' : Nat → Prop, res = .int .i64 0 ∧ StO S' xw N4 [enA v 0] 0 0 ∧ Grew S5 S' w15 xw) rfl rfl rfl (by kernel_rfl) (by kernel_rfl) (Try.call11 _ _) (awAp1 w15 (.slice (some ⟨N16, 0, none⟩) 1 1) hO31 (row_sl hr32 opE_len) (fun _ => (fun k hk => by cases hk; exact ho22))) (by rintro e x ⟨v, S', h0, h⟩; exact ⟨_, h0, v, S', rfl, h⟩)) ?_; clear h25
 rintro _ w27 a26 ⟨v33, S34, rfl, hO35, hx36⟩ h26
 have hlo38 : ∀ q, S34 q → w.heap.size ≤ q := hx36.lo hlo10 (by omega)
 have hB37 := hbL hB29 hlo10 hx36.but
 have hz39 := hB37.size
 have hz40 := hx36.but.size
 refine pk0 (v := .int .i64 0) h26 rfl fun a41 h41 => ?_; clear h26
 refine pl_nil ?_
 refine co_then ?_
 refine co_seq ?_
 refine co_reg ?_
 refine pk0 (v := pt N4 0) h41 rfl fun a42 h42 => ?_; clear h41
 refine pk0 (v := .agg #[.int .i64 3, .int .i64 0, .int .u64 5, .int .i64 0, .slice none 0 0, .int .u64 0, .slice none 0 0, .int .i64 0, .int .i64 0, .slice none 0 0, .int .u64 0, .int .i64 0, .int .u64 0, .int .i64 0, .int .i64 0, .int .i64 0, .int .i64 0, .int .i64 0]) h42 rfl fun a43 h43 => ?_; clear h42
 have ho46 := StO.ofS hO35
 refine pw h43 rfl (op_call (args := #[pt N4 0, .agg #[.int .i64 3, .int .i64 0, .int .u64 5, .int .i64 0, .slice none 0 0, .int .u64 0, .slice none 0 0, .int .i64 0, .int .i64 0, .slice none 0 0, .int .u64 0, .int .i64 0, .int .u64 0, .int .i64 0, .int .i64 0, .int .i64 0, .int .i64 0, .int .i64 0]]) (R := fun res xw => ∃ S' : Nat → Prop, res = .int .i64 0 ∧ StO S' xw N4 [enA v33 5] 0 0 ∧ Grew S34 S' w27 xw) rfl rfl rfl (by kernel_rfl) (by kernel_rfl) (Try.call11 _ _) (awAp2 w27 v33 hO35) (by rintro e x ⟨S', h0, h⟩; exact ⟨_, h0, S', rfl, h⟩)) ?_; clear h43
 rintro _ w45 a44 ⟨S47, rfl, hO48, hx49⟩ h44
 have hr50 := own_butS hr32 hx36.but (fun k hk => by cases hk; exact ho22)
 have hlo52 : ∀ q, S47 q → w.heap.size ≤ q := hx49.lo hlo38 (by omega)
 have hB51 := hbL hB37 hlo38 hx49.but
 have hz53 := hB51.size
 have hz54 := hx49.but.size
 refine pk0 (v := .int .i64 0) h44 rfl fun a55 h55 => ?_; clear h44
 refine pl_nil ?_
 refine co_then ?_
 refine co_seq ?_
 refine co_reg ?_
 refine pw h55 rfl (op_call (args := #[]) (R := fun res xw => ∃ N : Nat, ∃ S' : Nat → Prop, res = pt N 0 ∧ TwS S' xw N4 N [enA v33 5] 0 0 (fun _ => []) 0 0 0 ∧ Grew S47 S' w45 xw) rfl rfl rfl (by kernel_rfl) (by kernel_rfl) (Try.call14 _ _) (twNew w45 hO48) (by rintro e x ⟨N, S', h0, h⟩; exact ⟨_, h0, N, S', rfl, h⟩)) ?_; clear h55
 rintro _ w57 a56 ⟨N58, S59, rfl, hO60, hx61⟩ h56
 have hr62 := own_butS hr50 hx49.but (Grew.offR hx36 hr32 (fun k hk => by cases hk; exact ho22))
 have hlo64 : ∀ q, S59 q → w.heap.size ≤ q := hx61.lo hlo52 (by omega)
 have hB63 := hbL hB51 hlo52 hx61.but
 have hz65 := hB63.size
 have hz66 := hx61.but.size
 refine pk0 (v := pt N58 0) h56 rfl fun a67 h67 => ?_; clear h56
 refine pl_nil ?_
 refine co_then ?_
 refine co_seq ?_
 refine co_reg ?_
 refine pk0 (v := pt N4 0) h67 rfl fun a68 h68 => ?_; clear h67
 refine pk0 (v := pt N58 0) h68 rfl fun a69 h69 => ?_; clear h68
 refine pw h69 rfl (op_call (args := #[pt N4 0, pt N58 0, .int .i64 0, .int .i64 9]) (R := fun res xw => ∃ S' : Nat → Prop, res = .int .i64 1 ∧ TwS S' xw N4 N58 [enA v33 5] 0 0 (mvF (fun _ => []) 0 5 [opA]) (mvLa 0 5 [opA]) (mvCe 0 5 0 [opA]) 1 ∧ Grew S59 S' w57 xw) rfl rfl rfl (by kernel_rfl) (by kernel_rfl) (Try.call15 _ _) (twFeed1 w57 v33 hO60) (by rintro e x ⟨S', h0, h⟩; exact ⟨_, h0, S', rfl, h⟩)) ?_; clear h69
 rintro _ w71 a70 ⟨S72, rfl, hO73, hx74⟩ h70
 have hr75 := own_butS hr62 hx61.but (Grew.offR hx49 hr50 (Grew.offR hx36 hr32 (fun k hk => by cases hk; exact ho22)))
 have hlo77 : ∀ q, S72 q → w.heap.size ≤ q := hx74.lo hlo64 (by omega)
 have hB76 := hbL hB63 hlo64 hx74.but
 have hz78 := hB76.size
 have hz79 := hx74.but.size
 refine pk0 (v := .int .i64 1) h70 rfl fun a80 h80 => ?_; clear h70
 refine pl_nil ?_
 refine co_then ?_
 refine co_seq ?_
 refine co_reg ?_
 refine pk0 (v := pt N58 0) h80 rfl fun a81 h81 => ?_; clear h80
 refine pw h81 rfl (op_call (args := #[pt N58 0, .string (⟨#[97]⟩), .int .u64 5]) (R := fun res xw => res = .tuple #[.string (⟨#[49]⟩), .bool true] ∧ Below w71.heap.size w71 xw) rfl rfl rfl (by kernel_rfl) (by kernel_rfl) (Try.call28 _ _) (twGet w71 (⟨#[97]⟩) 5 hO73) (by rintro e x ⟨rfl, h⟩; rw [aw_get]; exact ⟨_, rfl, rfl, h⟩)) ?_; clear h81
 rintro _ w83 a82 ⟨rfl, hb84⟩ h82
 have hz85 := hb84.size
 have ho86 := TwS.ofS hO73
 refine pk0 (v := .tuple #[.string (⟨#[49]⟩), .bool true]) h82 rfl fun a87 h87 => ?_; clear h82
 refine pk0 (v := .string (⟨#[49]⟩)) h87 rfl fun a88 h88 => ?_; clear h87
 refine pk0 (v := .bool true) h88 rfl fun a89 h89 => ?_; clear h88
 refine pk0 (v := .string (⟨#[49]⟩)) h89 rfl fun a90 h90 => ?_; clear h89
 refine pk0 (v := .bool true) h90 rfl fun a91 h91 => ?_; clear h90
 refine pl_nil ?_
 refine co_then ?_
 refine co_seq ?_
 refine co_reg ?_
 refine pk0 (v := .int .i64 0) h91 rfl fun a92 h92 => ?_; clear h91
 refine pk0 (v := .bool ((0 : Int) == 0)) h92 rfl fun a93 h93 => ?_; clear h92
 refine pk0 (v := .bool ((0 : Int) == 0)) h93 rfl fun a94 h94 => ?_; clear h93
 have hc95 : ((0 : Int) == 0) = true := by first | (simp; done) | (simp; omega) | exact beq_false_of_ne (by omega) | exact beq_iff_eq.2 (by omega)
 rw [hc95] at h94; clear hc95
 refine pk0 (v := .int .i64 0) h94 rfl fun a96 h96 => ?_; clear h94
 refine pk0 (v := .bool ((0 : Int) == 0)) h96 rfl fun a97 h97 => ?_; clear h96
 refine pk0 (v := .bool ((0 : Int) == 0)) h97 rfl fun a98 h98 => ?_; clear h97
 refine pk0 (v := .bool ((0 : Int) == 0)) h98 rfl fun a99 h99 => ?_; clear h98
 have hc100 : ((0 : Int) == 0) = true := by first | (simp; done) | (simp; omega) | exact beq_false_of_ne (by omega) | exact beq_iff_eq.2 (by omega)
 rw [hc100] at h99; clear hc100
 refine pk0 (v := pt N4 0) h99 rfl fun a101 h101 => ?_; clear h99
 have hB104 := hb_call hB76 hb84
 have hr105 := own_butS hr75 hx74.but (Grew.offR hx61 hr62 (Grew.offR hx49 hr50 (Grew.offR hx36 hr32 (fun k hk => by cases hk; exact ho22))))
 have hr106 := row_kept_new hr105 (below_grown hb84)
 have hO107 := TwS.gr hO73 (below_grown hb84) (fun k e => by cases e)
 refine pw h101 rfl (op_call (args := #[pt N4 0]) (R := fun res xw => ∃ S' : Nat → Prop, res = .int .i64 1 ∧ TwS S' xw N4 N58 [enA v33 5] 0 0 (mvF (fun _ => []) 0 5 [opA]) (mvLa 0 5 [opA]) (mvCe 0 5 0 [opA]) 1 ∧ Grew S72 S' w83 xw) rfl rfl rfl (by kernel_rfl) (by kernel_rfl) (Try.call19 _ _) (twStamped w83 hO107) (by rintro e x ⟨S', h0, h⟩; exact ⟨_, h0, S', rfl, h⟩)) ?_; clear h101
 rintro _ w103 a102 ⟨S108, rfl, hO109, hx110⟩ h102
 have hlo112 : ∀ q, S108 q → w.heap.size ≤ q := hx110.lo hlo77 (by omega)
 have hB111 := hbL hB104 hlo77 hx110.but
 have hz113 := hB111.size
 have hz114 := hx110.but.size
 refine pk0 (v := .bool ((1 : Int) == 1)) h102 rfl fun a115 h115 => ?_; clear h102
 refine pk0 (v := .bool ((1 : Int) == 1)) h115 rfl fun a116 h116 => ?_; clear h115
 refine pk0 (v := .bool ((1 : Int) == 1)) h116 rfl fun a117 h117 => ?_; clear h116
 have hc118 : ((1 : Int) == 1) = true := by first | (simp; done) | (simp; omega) | exact beq_false_of_ne (by omega) | exact beq_iff_eq.2 (by omega)
 rw [hc118] at h117; clear hc118
 refine pk0 (v := .int .i64 1) h117 rfl fun a119 h119 => ?_; clear h117
 refine pk0 (v := .bool ((1 : Int) == 1)) h119 rfl fun a120 h120 => ?_; clear h119
 refine pk0 (v := .bool ((1 : Int) == 1)) h120 rfl fun a121 h121 => ?_; clear h120
 refine pk0 (v := .bool ((1 : Int) == 1)) h121 rfl fun a122 h122 => ?_; clear h121
 have hc123 : ((1 : Int) == 1) = true := by first | (simp; done) | (simp; omega) | exact beq_false_of_ne (by omega) | exact beq_iff_eq.2 (by omega)
 rw [hc123] at h122; clear hc123
 refine pk0 (v := .string (⟨#[49]⟩)) h122 rfl fun a124 h124 => ?_; clear h122
 refine pk0 (v := .bool ((⟨#[49]⟩ : ByteArray).toList == (⟨#[49]⟩ : ByteArray).toList)) h124 rfl fun a125 h125 => ?_; clear h124
 refine pk0 (v := .bool ((⟨#[49]⟩ : ByteArray).toList == (⟨#[49]⟩ : ByteArray).toList)) h125 rfl fun a126 h126 => ?_; clear h125
 refine pk0 (v := .bool ((⟨#[49]⟩ : ByteArray).toList == (⟨#[49]⟩ : ByteArray).toList)) h126 rfl fun a127 h127 => ?_; clear h126
 have hc128 : ((⟨#[49]⟩ : ByteArray).toList == (⟨#[49]⟩ : ByteArray).toList) = true := by first | (simp; done) | (simp; omega) | exact beq_false_of_ne (by omega) | exact beq_iff_eq.2 (by omega)
 rw [hc128] at h127; clear hc128
 refine pk0 (v := .bool true) h127 rfl fun a129 h129 => ?_; clear h127
 refine pk0 (v := .bool true) h129 rfl fun a130 h130 => ?_; clear h129
 refine pk0 (v := .bool true) h130 rfl fun a131 h131 => ?_; clear h130
 refine pk0 (v := pt N4 0) h131 rfl fun a132 h132 => ?_; clear h131
 refine pk0 (v := .agg #[.int .i64 5, .int .i64 0, .int .u64 0, .int .i64 0, .slice none 0 0, .int .u64 0, .slice none 0 0, .int .i64 0, .int .i64 0, .slice none 0 0, .int .u64 0, .int .i64 0, .int .u64 0, .int .i64 0, .int .i64 0, .int .i64 0, .int .i64 0, .int .i64 0]) h132 rfl fun a133 h133 => ?_; clear h132
 have ho136 := TwS.ofS hO109
 refine pw h133 rfl (op_call (args := #[pt N4 0, .agg #[.int .i64 5, .int .i64 0, .int .u64 0, .int .i64 0, .slice none 0 0, .int .u64 0, .slice none 0 0, .int .i64 0, .int .i64 0, .slice none 0 0, .int .u64 0, .int .i64 0, .int .u64 0, .int .i64 0, .int .i64 0, .int .i64 0, .int .i64 0, .int .i64 0]]) (R := fun res xw => ∃ S' : Nat → Prop, res = .int .i64 11 ∧ TwS S' xw N4 N58 [enA v33 5] 0 0 (mvF (fun _ => []) 0 5 [opA]) (mvLa 0 5 [opA]) (mvCe 0 5 0 [opA]) 1 ∧ Grew S108 S' w103 xw) rfl rfl rfl (by kernel_rfl) (by kernel_rfl) (Try.call11 _ _) (awAp3 w103 v33 hO109) (by rintro e x ⟨S', h0, h⟩; exact ⟨_, h0, S', rfl, h⟩)) ?_; clear h133
 rintro _ w135 a134 ⟨S137, rfl, hO138, hx139⟩ h134
 have hr140 := own_butS hr106 hx110.but (Grew.offR hx74 hr75 (Grew.offR hx61 hr62 (Grew.offR hx49 hr50 (Grew.offR hx36 hr32 (fun k hk => by cases hk; exact ho22)))))
 have hlo142 : ∀ q, S137 q → w.heap.size ≤ q := hx139.lo hlo112 (by omega)
 have hB141 := hbL hB111 hlo112 hx139.but
 have hz143 := hB141.size
 have hz144 := hx139.but.size
 refine pk0 (v := .bool ((11 : Int) == 11)) h134 rfl fun a145 h145 => ?_; clear h134
 refine pk0 (v := .bool ((11 : Int) == 11)) h145 rfl fun a146 h146 => ?_; clear h145
 refine pk0 (v := .bool ((11 : Int) == 11)) h146 rfl fun a147 h147 => ?_; clear h146
 refine pl_nil ?_
 refine co_then ?_
 refine wp_ret ?_
 refine co_ret1 h147 rfl rfl ?_
 exact ⟨rfl, hB141⟩
end Go.Proofs.Ytkjnhghniopnoaa

/- Configurations and members that came in by value, opened. Conditions: none. -/
namespace Go.Proofs.Ytkjnhghniopnoaa
open Go.RowKit Go.ChangeShapes Go.WideShapes Go.Deep
section
variable {H : Type} {enc : TypeId × Value → H} {w : World} {base : Nat} {spare : Nat → Bool} {held : Bool}
set_option maxRecDepth 10000 in
theorem elem_mem (n : Nat) (cs : List Value) (x : DataW H × List MemPlace) (h : DataW.trod enc Try.prog w base spare held n 117 cs = some x) : ∃ p, cs = memE p ∧ memOk p := by
  obtain ⟨hl, m, hf⟩ := trod_fields Try.underlying117 (by kernel_rfl) (by kernel_rfl) h
  have hl2 : cs.length = 2 := hl
  clear hl
  match cs, hl2 with
  | [c0, c1], _ =>
    obtain ⟨_, y0, e0, h0⟩ := hf 0 _ rfl
    obtain ⟨_, y1, e1, h1⟩ := hf 1 _ rfl
    cases e0; cases e1
    obtain ⟨a, e0, _, w0⟩ := DataW.trod_int Try.underlying3 h0
    obtain ⟨b, e1, _, w1⟩ := DataW.trod_int Try.underlying3 h1
    simp only [List.cons.injEq, and_true] at e0 e1
    subst e0 e1
    exact ⟨(a, b), rfl, wf_i64 w0, wf_i64 w1⟩
theorem open_mems {fuel : Nat} {cs : List Value} {x : DataW H × List MemPlace} (h : DataW.trod enc Try.prog w base spare held fuel 29 cs = some x) :
    ∃ (l : List MemT) (v : Value), cs = [v] ∧ SliceOf memE 2 w v l ∧ ∀ p ∈ l, memOk p :=
  open_rows memE 2 memOk Try.underlying29 (by kernel_rfl) (by omega) elem_mem h
set_option maxRecDepth 10000 in
theorem elem_conf (n : Nat) (cs : List Value) (x : DataW H × List MemPlace) (h : DataW.trod enc Try.prog w base spare held n 31 cs = some x) : ∃ c : ConfT, cs = confE c ∧ ConfOk w c := by
  obtain ⟨hl, m, hf⟩ := trod_fields Try.underlying31 (by kernel_rfl) (by kernel_rfl) h
  have hl3 : cs.length = 3 := hl
  clear hl
  match cs, hl3 with
  | [c0, c1, c2], _ =>
    obtain ⟨_, y0, e0, h0⟩ := hf 0 _ rfl
    obtain ⟨_, y1, e1, h1⟩ := hf 1 _ rfl
    obtain ⟨_, y2, e2, h2⟩ := hf 2 _ rfl
    cases e0; cases e1; cases e2
    obtain ⟨a, e0, _, w0⟩ := DataW.trod_int Try.underlying3 h0
    obtain ⟨l, v, e1, hs, hall⟩ := open_mems h1
    obtain ⟨b, e2, _, w2⟩ := DataW.trod_int Try.underlying27 h2
    simp only [List.cons.injEq, and_true] at e0 e1 e2
    subst e0 e1 e2
    have k0 := wf_i64 w0; have k2 := wf_u64 w2
    exact ⟨⟨a, c1, l, b⟩, rfl, ⟨hs, hall, k0.1, k0.2, k2.1, k2.2⟩⟩
end
end Go.Proofs.Ytkjnhghniopnoaa

/- Notes that came in by value, opened. Conditions: none. -/
namespace Go.Proofs.Ytkjnhghniopnoaa
open Go.RowKit Go.ChangeShapes Go.WideShapes Go.Deep
structure NoteX where
  d : NoteD
  mv : Value
  lv : Value
  ev : Value
def noteE (x : NoteX) : List Value := [.int .i64 x.d.k, .int .i64 x.d.n, .int .u64 x.d.t, .int .i64 x.d.ep, x.mv, .int .u64 x.d.fl, x.lv, .int .i64 x.d.ec, .int .i64 x.d.er, x.ev, .int .u64 x.d.ets, .int .i64 x.d.pid, .int .u64 x.d.pat, .int .i64 x.d.plf, .int .i64 x.d.sc, .int .i64 x.d.sr, .int .i64 x.d.se, .int .i64 x.d.sp]
structure NoteOk (w : World) (x : NoteX) : Prop where
  hm : SliceOf memE 2 w x.mv x.d.ms
  hg : SliceOf (intE .i64) 1 w x.lv x.d.lg
  he : SliceOf opE 3 w x.ev x.d.el
  hR : NoteR x.d
section
variable {H : Type} {enc : TypeId × Value → H} {w : World} {base : Nat} {spare : Nat → Bool} {held : Bool}
theorem open_i64s {fuel : Nat} {cs : List Value} {x : DataW H × List MemPlace} (h : DataW.trod enc Try.prog w base spare held fuel 35 cs = some x) :
    ∃ (l : List Int) (v : Value), cs = [v] ∧ SliceOf (intE .i64) 1 w v l ∧ ∀ n ∈ l, (Lit.int .i64 n).wf = true :=
  open_rows (intE .i64) 1 _ Try.underlying35 (by kernel_rfl) (by omega) (fun n cs x h => by
    obtain ⟨a, e, _, hw⟩ := DataW.trod_int Try.underlying3 h
    exact ⟨a, e, hw⟩) h
set_option maxRecDepth 10000 in
theorem elem_note (n : Nat) (cs : List Value) (x : DataW H × List MemPlace) (h : DataW.trod enc Try.prog w base spare held n 46 cs = some x) : ∃ y : NoteX, cs = noteE y ∧ NoteOk w y := by
  obtain ⟨xs, m, _, _, hl, hxl, hf⟩ := DataW.trod_struct Try.underlying46 h
  have hl18 : cs.length = 18 := hl
  have hx8 : xs.length = 8 := hxl
  clear hl hxl
  match cs, hl18, xs, hx8 with
  | [c0, c1, c2, c3, c4, c5, c6, c7, c8, c9, c10, c11, c12, c13, c14, c15, c16, c17], _, [x0, x1, x2, x3, x4, x5, x6, x7], _ =>
    have h0 : DataW.trod enc Try.prog w base spare held m 3 [c0] = some x0 := hf 0 _ rfl
    have h1 : DataW.trod enc Try.prog w base spare held m 3 [c1] = some x1 := hf 1 _ rfl
    have h2 : DataW.trod enc Try.prog w base spare held m 27 [c2] = some x2 := hf 2 _ rfl
    have h3 : DataW.trod enc Try.prog w base spare held m 31 [c3, c4, c5] = some x3 := hf 3 _ rfl
    have h4 : DataW.trod enc Try.prog w base spare held m 35 [c6] = some x4 := hf 4 _ rfl
    have h5 : DataW.trod enc Try.prog w base spare held m 40 [c7, c8, c9, c10] = some x5 := hf 5 _ rfl
    have h6 : DataW.trod enc Try.prog w base spare held m 42 [c11, c12, c13] = some x6 := hf 6 _ rfl
    have h7 : DataW.trod enc Try.prog w base spare held m 44 [c14, c15, c16, c17] = some x7 := hf 7 _ rfl
    clear hf h
    obtain ⟨k, e0, _, _⟩ := DataW.trod_int Try.underlying3 h0
    obtain ⟨nn, e1, _, _⟩ := DataW.trod_int Try.underlying3 h1
    obtain ⟨t, e2, _, w2⟩ := DataW.trod_int Try.underlying27 h2
    obtain ⟨c, e3, hc⟩ := elem_conf _ _ _ h3
    obtain ⟨lg, lv, e4, hg, _⟩ := open_i64s h4
    obtain ⟨ys, m5, _, _, _, hyl, hf5⟩ := DataW.trod_struct Try.underlying40 h5
    have hy2 : ys.length = 2 := hyl
    clear hyl h5
    match ys, hy2 with
    | [y0, y1], _ =>
      have b0 : DataW.trod enc Try.prog w base spare held m5 38 [c7, c8, c9] = some y0 := hf5 0 _ rfl
      have b1 : DataW.trod enc Try.prog w base spare held m5 27 [c10] = some y1 := hf5 1 _ rfl
      clear hf5
      obtain ⟨ets, e10, _, w10⟩ := DataW.trod_int Try.underlying27 b1
      obtain ⟨_, m6, hf6⟩ := trod_fields Try.underlying38 (by kernel_rfl) (by kernel_rfl) b0
      obtain ⟨_, z0, f0, g0⟩ := hf6 0 _ rfl
      obtain ⟨_, z1, f1, g1⟩ := hf6 1 _ rfl
      obtain ⟨_, z2, f2, g2⟩ := hf6 2 _ rfl
      cases f0; cases f1; cases f2
      obtain ⟨ec, e7, _, _⟩ := DataW.trod_int Try.underlying3 g0
      obtain ⟨er, e8, _, _⟩ := DataW.trod_int Try.underlying3 g1
      obtain ⟨el, ev, e9, he, _⟩ := open_opsS g2
      obtain ⟨_, m7, hf7⟩ := trod_fields Try.underlying42 (by kernel_rfl) (by kernel_rfl) h6
      obtain ⟨_, z3, f3, g3⟩ := hf7 0 _ rfl
      obtain ⟨_, z4, f4, g4⟩ := hf7 1 _ rfl
      obtain ⟨_, z5, f5, g5⟩ := hf7 2 _ rfl
      cases f3; cases f4; cases f5
      obtain ⟨pid, e11, _, _⟩ := DataW.trod_int Try.underlying3 g3
      obtain ⟨pat, e12, _, w12⟩ := DataW.trod_int Try.underlying27 g4
      obtain ⟨plf, e13, _, _⟩ := DataW.trod_int Try.underlying3 g5
      obtain ⟨_, m8, hf8⟩ := trod_fields Try.underlying44 (by kernel_rfl) (by kernel_rfl) h7
      obtain ⟨_, z6, f6, g6⟩ := hf8 0 _ rfl
      obtain ⟨_, z7, f7, g7⟩ := hf8 1 _ rfl
      obtain ⟨_, z8, f8, g8⟩ := hf8 2 _ rfl
      obtain ⟨_, z9, f9, g9⟩ := hf8 3 _ rfl
      cases f6; cases f7; cases f8; cases f9
      obtain ⟨sc, e14, _, _⟩ := DataW.trod_int Try.underlying3 g6
      obtain ⟨sr, e15, _, _⟩ := DataW.trod_int Try.underlying3 g7
      obtain ⟨se, e16, _, _⟩ := DataW.trod_int Try.underlying33 g8
      obtain ⟨sp, e17, _, _⟩ := DataW.trod_int Try.underlying3 g9
      clear h0 h1 h2 h3 h4 h6 h7 hf6 hf7 hf8 g0 g1 g2 g3 g4 g5 g6 g7 g8 g9 b0 b1
      simp only [confE, List.cons.injEq, and_true] at e0 e1 e2 e3 e4 e7 e8 e9 e10 e11 e12 e13 e14 e15 e16 e17
      obtain ⟨rfl, rfl, rfl⟩ := e3
      subst e0 e1 e2 e4 e7 e8 e9 e10 e11 e12 e13 e14 e15 e16 e17
      exact ⟨⟨⟨k, nn, t, c.ep, c.ms, c.fl, lg, ec, er, el, ets, pid, pat, plf, sc, sr, se, sp⟩, c.mv, _, _⟩, rfl, ⟨hc.ms, hg, he, ⟨hc.each, ⟨hc.e0, hc.e1⟩, ⟨hc.f0, hc.f1⟩, wf_u64 w2, wf_u64 w10, wf_u64 w12⟩⟩⟩
end
end Go.Proofs.Ytkjnhghniopnoaa

/- catenalaw30: RstateRight. Conditions: none. -/
namespace Go.Proofs.Ytkjnhghniopnoaa
open Go.RowKit Go.PlainAid
set_option linter.unusedVariables false
set_option linter.unusedSimpArgs false


instance : Inhabited NoteX := ⟨⟨zN 0, .slice none 0 0, .slice none 0 0, .slice none 0 0⟩⟩
theorem NoteOk.below {w x : World} {y : NoteX} (h : NoteOk w y) (hb : Below w.heap.size w x) : NoteOk x y := ⟨h.hm.below hb, h.hg.below hb, h.he.below hb, h.hR⟩
theorem memE_ne (l : List MemT) : ∀ y ∈ l, memE y ≠ [] := fun y _ e => by cases e
theorem intE_ne (l : List Int) : ∀ y ∈ l, intE .i64 y ≠ [] := fun y _ e => by cases e
section
open Go.ChangeShapes Go.WideShapes Go.Deep
theorem open_notes {H : Type} {enc : TypeId × Value → H} {w : World} {base : Nat} {spare : Nat → Bool} {held : Bool} {fuel : Nat} {cs : List Value} {x : DataW H × List MemPlace} (h : DataW.trod enc Try.prog w base spare held fuel 22 cs = some x) :
    ∃ (l : List NoteX) (v : Value), cs = [v] ∧ SliceOf noteE 18 w v l ∧ ∀ p ∈ l, NoteOk w p :=
  open_rows noteE 18 (NoteOk w) Try.underlying22 (by kernel_rfl) (by omega) elem_note h
end


theorem tw_no {l : List EntT} {k : Nat} {z : EntT} {c r : Int} (h : twN (l.take k) c r = 0) (hz : l[k]? = some z) (hn : ¬ (z.client = c ∧ z.req = r)) : twN (l.take (k + 1)) c r = 0 := by
  rw [takeE hz, twN_snoc, if_neg hn, h]; rfl
theorem tw_yes {l : List EntT} {k i : Nat} {z : EntT} {c r : Int} (hz : l[k]? = some z) (hk : k < i) (hy : z.client = c ∧ z.req = r) : 0 < twN (l.take i) c r := by
  have h1 : z ∈ l.take i := List.mem_of_getElem? (by rw [List.getElem?_take, if_pos hk]; exact hz)
  have h2 : 0 < (l.take i).countP (fun e => e.client == c && e.req == r) := List.countP_pos_iff.2 ⟨z, h1, by simp [hy.1, hy.2]⟩
  unfold twN; omega
theorem tw_end {l : List EntT} {k i : Nat} {c r : Int} (h : twN (l.take k) c r = 0) (hk : k = i) : ¬ 0 < twN (l.take i) c r := by subst hk; omega

set_option maxRecDepth 100000 in
theorem ritemRight_any (v : Value) (l : List EntT) (w : World) (hs : SliceOf entE 4 w v l) (hok : ∀ z ∈ l, EntOk w z) :
    Calls Try.prog 12 #[v] w fun e w' => e = .returned (.int .i64 (rightI l)) ∧ Below w.heap.size w w' := by
 have hB0 := Below.refl w.heap.size w
 have hl_hs := sl_len hs
 refine co_enter (n := 67) Try.func12 rfl rfl rfl [(0, v)] rfl (fun a h0 => ?_)
 refine co_seq ?_
 refine co_reg ?_
 refine pk0 (v := .int .i64 0) h0 rfl fun a1 h1 => ?_; clear h0
 refine pl_nil ?_
 refine co_then ?_
 refine co_seq ?_
 refine co_seq ?_
 refine co_reg ?_
 refine pk0 (v := .int .i64 0) h1 rfl fun a2 h2 => ?_; clear h1
 refine pl_nil ?_
 refine co_then ?_
 refine wp_block ?_
 have h3 : Slots 67 [(0, v), (3, .int .i64 0)] _ := h2.sub ⟨rfl, rfl, trivial⟩; clear h2
 refine co_loop (fun mm a x => ∃ (i : Nat), Slots 67 [(0, v), (3, .int .i64 ((i : Nat) : Int))] a ∧ mm = l.length - i ∧ (i ≤ l.length) ∧ (rgF (l.take i) (l.drop i) = rightI l) ∧ Below w.heap.size w x) (l.length - 0) ?_ ?_
 · exact ⟨0, h3.sub ⟨rfl, (slot_eq rfl (congrArg (Value.int .i64) (by first | rfl | omega))), trivial⟩, rfl, by omega, by first | rfl | exact hL', hB0⟩
 · rintro k4 a5 w6 ⟨i, h5, rfl, hi7, hi8, hB9⟩
   have hz10 := hB9.size
   have hL : rgF (l.take i) (l.drop i) = rightI l := by assumption
   refine co_seq ?_
   refine co_seq ?_
   refine co_reg ?_
   refine pk0 (v := .int .i64 ((i : Nat) : Int)) h5 rfl fun a11 h11 => ?_; clear h5
   refine pk0 (v := v) h11 rfl fun a12 h12 => ?_; clear h11
   refine pk (v := .int .i64 ((l.length : Nat) : Int)) h12 rfl (rn_len rfl rfl Try.underlying48 (hs.below hB9)) fun a13 h13 => ?_; clear h12
   refine pk0 (v := .bool (decide (((i : Nat) : Int) < ((l.length : Nat) : Int)))) h13 rfl fun a14 h14 => ?_; clear h13
   refine pl_nil ?_
   refine co_then ?_
   cases hc15 : (decide (((i : Nat) : Int) < ((l.length : Nat) : Int)))
   ·
    rw [hc15] at h14
    have hp16 : ¬ (((i : Nat) : Int) < ((l.length : Nat) : Int)) := of_decide_eq_false hc15
    clear hc15
    refine co_false h14 rfl ?_
    refine wp_exit ?_
    refine co_thenX ?_
    refine co_thenX ?_
    refine co_blockX ?_
    refine co_then ?_
    refine co_seq ?_
    refine co_reg ?_
    refine pk0 (v := .int .i64 0) h14 rfl fun a17 h17 => ?_; clear h14
    refine pl_nil ?_
    refine co_then ?_
    refine wp_ret ?_
    refine co_ret1 h17 rfl rfl ?_
    exact ⟨ret_int (rg_end (i := i) hL (by omega)), hB9⟩
   ·
    rw [hc15] at h14
    have hp18 : ((i : Nat) : Int) < ((l.length : Nat) : Int) := of_decide_eq_true hc15
    clear hc15
    refine co_true h14 rfl ?_
    refine wp_skip ?_
    refine co_then ?_
    refine co_seq ?_
    refine wp_block ?_
    refine co_seq ?_
    refine co_seq ?_
    refine co_reg ?_
    refine pk0 (v := v) h14 rfl fun a19 h19 => ?_; clear h14
    refine pk0 (v := .int .i64 ((i : Nat) : Int)) h19 rfl fun a20 h20 => ?_; clear h19
    obtain ⟨y21, hy21⟩ : ∃ z, l[i]? = some z := ⟨_, List.getElem?_eq_getElem (by first | omega | (simp; done) | (simp; omega))⟩
    have oky21 := hok _ (List.mem_of_getElem? hy21)
    have k22 : 0 ≤ y21.ts := oky21.ts0
    have k23 : y21.ts < 18446744073709551616 := oky21.ts1
    refine pk (v := pt (blkOf v) (offOf v + i * 4)) h20 rfl (rn_index rfl rfl rfl Try.underlying48 Try.sizeOf40 (hs.below hB9) (by omega) (by first | omega | (simp; done) | (simp; omega))) fun a24 h24 => ?_; clear h20
    refine pk (v := .agg #[.int .i64 y21.client, .int .i64 y21.req, y21.ops, .int .u64 y21.ts]) h24 rfl (rn_loadN rfl rfl Try.underlying40 rfl (by kernel_rfl) (sl_at (hs.below hB9) hy21)) fun a25 h25 => ?_; clear h24
    refine pw h25 rfl (op_call (args := #[.agg #[.int .i64 y21.client, .int .i64 y21.req, y21.ops, .int .u64 y21.ts]]) (R := fun res xw => res = .int .i64 (chkB y21.client y21.req y21.opl) ∧ Below w6.heap.size w6 xw) rfl rfl rfl (by kernel_rfl) (by kernel_rfl) (Try.call37 _ _) (ritemCheck_any y21.client y21.req y21.ops y21.opl y21.ts w6 (oky21.ops.below hB9)) (by rintro e x ⟨rfl, hb28⟩; exact ⟨_, rfl, ⟨rfl, hb28⟩⟩)) ?_; clear h25
    rintro _ w27 a26 ⟨rfl, hb28⟩ h26
    have hz29 := hb28.size
    refine pk0 (v := .int .i64 (chkB y21.client y21.req y21.opl)) h26 rfl fun a30 h30 => ?_; clear h26
    refine pl_nil ?_
    refine co_then ?_
    refine co_seq ?_
    refine co_reg ?_
    refine pk0 (v := .int .i64 (chkB y21.client y21.req y21.opl)) h30 rfl fun a31 h31 => ?_; clear h30
    refine pk0 (v := .bool (chkB y21.client y21.req y21.opl != 0)) h31 rfl fun a32 h32 => ?_; clear h31
    refine pl_nil ?_
    refine co_then ?_
    have hB34 := hb_call hB9 hb28
    cases hc33 : (chkB y21.client y21.req y21.opl != 0)
    ·
     rw [hc33] at h32
     have hp35 : ¬ (chkB y21.client y21.req y21.opl ≠ 0) := by first | simpa using hc33 | simpa [and_assoc] using hc33
     clear hc33
     refine co_false h32 rfl ?_
     refine wp_skip ?_
     refine co_then ?_
     refine co_seq ?_
     refine co_seq ?_
     refine co_reg ?_
     refine pk0 (v := .int .i64 0) h32 rfl fun a36 h36 => ?_; clear h32
     refine pl_nil ?_
     refine co_then ?_
     refine wp_block ?_
     have h37 : Slots 67 [(0, v), (3, .int .i64 ((i : Nat) : Int)), (5, .int .i64 0)] _ := h36.sub ⟨rfl, rfl, rfl, trivial⟩; clear h36
     refine co_loop (fun mm a x => ∃ (k : Nat), Slots 67 [(0, v), (3, .int .i64 ((i : Nat) : Int)), (5, .int .i64 ((k : Nat) : Int))] a ∧ mm = i - k ∧ (k ≤ i) ∧ (twN (l.take k) y21.client y21.req = 0) ∧ Below w.heap.size w x) (i - 0) ?_ ?_
     · exact ⟨0, h37.sub ⟨rfl, rfl, (slot_eq rfl (congrArg (Value.int .i64) (by first | rfl | omega))), trivial⟩, rfl, by omega, by first | (simp [twN]; done) | exact htn, hB34⟩
     · rintro k38 a39 w40 ⟨k, h39, rfl, hi41, hi42, hB43⟩
       have hz44 := hB43.size
       refine co_seq ?_
       refine co_seq ?_
       refine co_reg ?_
       refine pk0 (v := .int .i64 ((k : Nat) : Int)) h39 rfl fun a45 h45 => ?_; clear h39
       refine pk0 (v := .int .i64 ((i : Nat) : Int)) h45 rfl fun a46 h46 => ?_; clear h45
       refine pk0 (v := .bool (decide (((k : Nat) : Int) < ((i : Nat) : Int)))) h46 rfl fun a47 h47 => ?_; clear h46
       refine pl_nil ?_
       refine co_then ?_
       cases hc48 : (decide (((k : Nat) : Int) < ((i : Nat) : Int)))
       ·
        rw [hc48] at h47
        have hp49 : ¬ (((k : Nat) : Int) < ((i : Nat) : Int)) := of_decide_eq_false hc48
        clear hc48
        refine co_false h47 rfl ?_
        refine wp_exit ?_
        refine co_thenX ?_
        refine co_thenX ?_
        refine co_blockX ?_
        refine co_then ?_
        refine co_seq ?_
        refine dr_eq (by kernel_rfl) (fun w50 hg51 => ?_)
        have hz52 := hg51.size
        refine dk0 0 (v := .int .i64 ((i : Nat) : Int)) h47 rfl rfl rfl fun a53 h53 => ?_; clear h47
        refine dk0 1 (v := .bool (decide (((i : Nat) : Int) > 0))) h53 rfl rfl rfl fun a54 h54 => ?_; clear h53
        refine dk0 2 (v := .bool (decide (((i : Nat) : Int) > 0))) h54 rfl rfl rfl fun a55 h55 => ?_; clear h54
        have hB57 := hb_new hB43 hg51
        cases hc56 : (decide (((i : Nat) : Int) > 0))
        ·
         rw [hc56] at h55
         have hp58 : ¬ (((i : Nat) : Int) > 0) := of_decide_eq_false hc56
         clear hc56
         refine dsk 3 h55 rfl rfl rfl fun a59 h59 => ?_; clear h55
         refine dsk 4 h59 rfl rfl rfl fun a60 h60 => ?_; clear h59
         refine dsk 5 h60 rfl rfl rfl fun a61 h61 => ?_; clear h60
         refine dsk 6 h61 rfl rfl rfl fun a62 h62 => ?_; clear h61
         refine dsk 7 h62 rfl rfl rfl fun a63 h63 => ?_; clear h62
         refine dsk 8 h63 rfl rfl rfl fun a64 h64 => ?_; clear h63
         refine dk0 9 (v := .bool false) h64 rfl rfl rfl fun a65 h65 => ?_; clear h64
         refine dk0 10 (v := .bool false) h65 rfl rfl rfl fun a66 h66 => ?_; clear h65
         refine dsk 11 h66 rfl rfl rfl fun a67 h67 => ?_; clear h66
         refine dsk 12 h67 rfl rfl rfl fun a68 h68 => ?_; clear h67
         refine dsk 13 h68 rfl rfl rfl fun a69 h69 => ?_; clear h68
         refine dsk 14 h69 rfl rfl rfl fun a70 h70 => ?_; clear h69
         refine dsk 15 h70 rfl rfl rfl fun a71 h71 => ?_; clear h70
         refine dsk 16 h71 rfl rfl rfl fun a72 h72 => ?_; clear h71
         refine dsk 17 h72 rfl rfl rfl fun a73 h73 => ?_; clear h72
         refine dsk 18 h73 rfl rfl rfl fun a74 h74 => ?_; clear h73
         refine dsk 19 h74 rfl rfl rfl fun a75 h75 => ?_; clear h74
         refine dsk 20 h75 rfl rfl rfl fun a76 h76 => ?_; clear h75
         refine dsk 21 h76 rfl rfl rfl fun a77 h77 => ?_; clear h76
         refine dsk 22 h77 rfl rfl rfl fun a78 h78 => ?_; clear h77
         refine dsk 23 h78 rfl rfl rfl fun a79 h79 => ?_; clear h78
         refine dsk 24 h79 rfl rfl rfl fun a80 h80 => ?_; clear h79
         refine dsk 25 h80 rfl rfl rfl fun a81 h81 => ?_; clear h80
         refine dsk 26 h81 rfl rfl rfl fun a82 h82 => ?_; clear h81
         refine dsk 27 h82 rfl rfl rfl fun a83 h83 => ?_; clear h82
         refine dsk 28 h83 rfl rfl rfl fun a84 h84 => ?_; clear h83
         refine dsk 29 h84 rfl rfl rfl fun a85 h85 => ?_; clear h84
         refine dsk 30 h85 rfl rfl rfl fun a86 h86 => ?_; clear h85
         refine dsk 31 h86 rfl rfl rfl fun a87 h87 => ?_; clear h86
         refine dk0 32 (v := .bool false) h87 rfl rfl rfl fun a88 h88 => ?_; clear h87
         refine dr_done (by kernel_rfl) ?_
         refine co_then ?_
         refine co_false h88 rfl ?_
         refine wp_skip ?_
         refine co_blockN ?_
         refine co_then ?_
         refine co_reg ?_
         refine pk0 (v := .int .i64 ((i : Nat) : Int)) h88 rfl fun a89 h89 => ?_; clear h88
         refine pk (v := .int .i64 ((i + 1 : Nat) : Int)) h89 rfl (rn_arith' rfl rfl rfl rfl rfl rfl (IntWalk.i64_in _ (by omega)) (by omega)) fun a90 h90 => ?_; clear h89
         refine pk0 (v := .int .i64 ((i + 1 : Nat) : Int)) h90 rfl fun a91 h91 => ?_; clear h90
         refine pl_nil ?_
         refine co_then ?_
         refine ⟨(l.length - (i + 1)), by omega, ?_⟩
         have htw := tw_end (i := i) (by assumption : twN (l.take k) y21.client y21.req = 0) (by omega)
         have hbd : badT (l.take i) y21 = false := by first | exact bad_ts (by omega) | exact bad_0 (by omega)
         have hL' := rg_step (i := i) hL hy21 (by omega) htw hbd
         exact ⟨i + 1, h91.sub ⟨rfl, rfl, trivial⟩, rfl, by omega, by first | rfl | exact hL', hB57⟩
        ·
         rw [hc56] at h55
         have hp92 : ((i : Nat) : Int) > 0 := of_decide_eq_true hc56
         clear hc56
         refine dk0 3 (v := v) h55 rfl rfl rfl fun a93 h93 => ?_; clear h55
         refine dk0 4 (v := .int .i64 ((i : Nat) : Int)) h93 rfl rfl rfl fun a94 h94 => ?_; clear h93
         refine dk 5 (v := pt (blkOf v) (offOf v + i * 4)) h94 rfl rfl rfl (fun x hx => by subst hx; exact (rn_index rfl rfl rfl Try.underlying48 Try.sizeOf40 (hs.below hB57) (by omega) (by first | omega | (simp; done) | (simp; omega)))) fun a95 h95 => ?_; clear h94
         refine dk0 6 (v := pt (blkOf v) (offOf v + i * 4 + 3)) h95 rfl rfl rfl fun a96 h96 => ?_; clear h95
         refine dk 7 (v := .int .u64 y21.ts) h96 rfl rfl rfl (fun x hx => by subst hx; exact (rn_load1 rfl rfl Try.isAgg27 ((sl_at (hs.below hB57) hy21) 3 _ rfl))) fun a97 h97 => ?_; clear h96
         refine dk0 8 (v := .bool (y21.ts != 0)) h97 rfl rfl rfl fun a98 h98 => ?_; clear h97
         refine dk0 9 (v := .bool (y21.ts != 0)) h98 rfl rfl rfl fun a99 h99 => ?_; clear h98
         refine dk0 10 (v := .bool (y21.ts != 0)) h99 rfl rfl rfl fun a100 h100 => ?_; clear h99
         cases hc101 : (y21.ts != 0)
         ·
          rw [hc101] at h100
          have hp102 : ¬ (y21.ts ≠ 0) := by first | simpa using hc101 | simpa [and_assoc] using hc101
          clear hc101
          refine dsk 11 h100 rfl rfl rfl fun a103 h103 => ?_; clear h100
          refine dsk 12 h103 rfl rfl rfl fun a104 h104 => ?_; clear h103
          refine dsk 13 h104 rfl rfl rfl fun a105 h105 => ?_; clear h104
          refine dsk 14 h105 rfl rfl rfl fun a106 h106 => ?_; clear h105
          refine dsk 15 h106 rfl rfl rfl fun a107 h107 => ?_; clear h106
          refine dsk 16 h107 rfl rfl rfl fun a108 h108 => ?_; clear h107
          refine dsk 17 h108 rfl rfl rfl fun a109 h109 => ?_; clear h108
          refine dsk 18 h109 rfl rfl rfl fun a110 h110 => ?_; clear h109
          refine dsk 19 h110 rfl rfl rfl fun a111 h111 => ?_; clear h110
          refine dsk 20 h111 rfl rfl rfl fun a112 h112 => ?_; clear h111
          refine dsk 21 h112 rfl rfl rfl fun a113 h113 => ?_; clear h112
          refine dsk 22 h113 rfl rfl rfl fun a114 h114 => ?_; clear h113
          refine dsk 23 h114 rfl rfl rfl fun a115 h115 => ?_; clear h114
          refine dsk 24 h115 rfl rfl rfl fun a116 h116 => ?_; clear h115
          refine dsk 25 h116 rfl rfl rfl fun a117 h117 => ?_; clear h116
          refine dsk 26 h117 rfl rfl rfl fun a118 h118 => ?_; clear h117
          refine dsk 27 h118 rfl rfl rfl fun a119 h119 => ?_; clear h118
          refine dsk 28 h119 rfl rfl rfl fun a120 h120 => ?_; clear h119
          refine dsk 29 h120 rfl rfl rfl fun a121 h121 => ?_; clear h120
          refine dsk 30 h121 rfl rfl rfl fun a122 h122 => ?_; clear h121
          refine dsk 31 h122 rfl rfl rfl fun a123 h123 => ?_; clear h122
          refine dk0 32 (v := .bool false) h123 rfl rfl rfl fun a124 h124 => ?_; clear h123
          refine dr_done (by kernel_rfl) ?_
          refine co_then ?_
          refine co_false h124 rfl ?_
          refine wp_skip ?_
          refine co_blockN ?_
          refine co_then ?_
          refine co_reg ?_
          refine pk0 (v := .int .i64 ((i : Nat) : Int)) h124 rfl fun a125 h125 => ?_; clear h124
          refine pk (v := .int .i64 ((i + 1 : Nat) : Int)) h125 rfl (rn_arith' rfl rfl rfl rfl rfl rfl (IntWalk.i64_in _ (by omega)) (by omega)) fun a126 h126 => ?_; clear h125
          refine pk0 (v := .int .i64 ((i + 1 : Nat) : Int)) h126 rfl fun a127 h127 => ?_; clear h126
          refine pl_nil ?_
          refine co_then ?_
          refine ⟨(l.length - (i + 1)), by omega, ?_⟩
          have htw := tw_end (i := i) (by assumption : twN (l.take k) y21.client y21.req = 0) (by omega)
          have hbd : badT (l.take i) y21 = false := by first | exact bad_ts (by omega) | exact bad_0 (by omega)
          have hL' := rg_step (i := i) hL hy21 (by omega) htw hbd
          exact ⟨i + 1, h127.sub ⟨rfl, rfl, trivial⟩, rfl, by omega, by first | rfl | exact hL', hB57⟩
         ·
          rw [hc101] at h100
          have hp128 : y21.ts ≠ 0 := by first | simpa using hc101 | simpa [and_assoc] using hc101
          clear hc101
          refine dk0 11 (v := v) h100 rfl rfl rfl fun a129 h129 => ?_; clear h100
          refine dk0 12 (v := .int .i64 ((i : Nat) : Int)) h129 rfl rfl rfl fun a130 h130 => ?_; clear h129
          refine dk 13 (v := .int .i64 (((i : Nat) : Int) - 1)) h130 rfl rfl rfl (fun x hx => by subst hx; exact (rn_arith rfl rfl rfl rfl rfl rfl (IntWalk.i64_in _ (by omega)))) fun a131 h131 => ?_; clear h130
          obtain ⟨y132, hy132⟩ : ∃ z, l[(((i : Nat) : Int) - 1).toNat]? = some z := ⟨_, List.getElem?_eq_getElem (by first | omega | (simp; done) | (simp; omega))⟩
          have oky132 := hok _ (List.mem_of_getElem? hy132)
          have k133 : 0 ≤ y132.ts := oky132.ts0
          have k134 : y132.ts < 18446744073709551616 := oky132.ts1
          refine dk 14 (v := pt (blkOf v) (offOf v + ((((i : Nat) : Int) - 1).toNat) * 4)) h131 rfl rfl rfl (fun x hx => by subst hx; exact (rn_index rfl rfl rfl Try.underlying48 Try.sizeOf40 (hs.below hB57) (by omega) (by first | omega | (simp; done) | (simp; omega)))) fun a135 h135 => ?_; clear h131
          refine dk0 15 (v := pt (blkOf v) (offOf v + ((((i : Nat) : Int) - 1).toNat) * 4 + 3)) h135 rfl rfl rfl fun a136 h136 => ?_; clear h135
          refine dk 16 (v := .int .u64 y132.ts) h136 rfl rfl rfl (fun x hx => by subst hx; exact (rn_load1 rfl rfl Try.isAgg27 ((sl_at (hs.below hB57) hy132) 3 _ rfl))) fun a137 h137 => ?_; clear h136
          refine dk0 17 (v := .bool (y132.ts == 0)) h137 rfl rfl rfl fun a138 h138 => ?_; clear h137
          refine dk0 18 (v := .bool (y132.ts == 0)) h138 rfl rfl rfl fun a139 h139 => ?_; clear h138
          cases hc140 : (y132.ts == 0)
          ·
           rw [hc140] at h139
           have hp141 : ¬ (y132.ts = 0) := by first | simpa using hc140 | simpa [and_assoc] using hc140
           clear hc140
           refine dk0 19 (v := v) h139 rfl rfl rfl fun a142 h142 => ?_; clear h139
           refine dk0 20 (v := .int .i64 ((i : Nat) : Int)) h142 rfl rfl rfl fun a143 h143 => ?_; clear h142
           refine dk 21 (v := .int .i64 (((i : Nat) : Int) - 1)) h143 rfl rfl rfl (fun x hx => by subst hx; exact (rn_arith rfl rfl rfl rfl rfl rfl (IntWalk.i64_in _ (by omega)))) fun a144 h144 => ?_; clear h143
           refine dk 22 (v := pt (blkOf v) (offOf v + ((((i : Nat) : Int) - 1).toNat) * 4)) h144 rfl rfl rfl (fun x hx => by subst hx; exact (rn_index rfl rfl rfl Try.underlying48 Try.sizeOf40 (hs.below hB57) (by omega) (by first | omega | (simp; done) | (simp; omega)))) fun a145 h145 => ?_; clear h144
           refine dk0 23 (v := pt (blkOf v) (offOf v + ((((i : Nat) : Int) - 1).toNat) * 4 + 3)) h145 rfl rfl rfl fun a146 h146 => ?_; clear h145
           refine dk 24 (v := .int .u64 y132.ts) h146 rfl rfl rfl (fun x hx => by subst hx; exact (rn_load1 rfl rfl Try.isAgg27 ((sl_at (hs.below hB57) hy132) 3 _ rfl))) fun a147 h147 => ?_; clear h146
           refine dk0 25 (v := v) h147 rfl rfl rfl fun a148 h148 => ?_; clear h147
           refine dk0 26 (v := .int .i64 ((i : Nat) : Int)) h148 rfl rfl rfl fun a149 h149 => ?_; clear h148
           refine dk 27 (v := pt (blkOf v) (offOf v + i * 4)) h149 rfl rfl rfl (fun x hx => by subst hx; exact (rn_index rfl rfl rfl Try.underlying48 Try.sizeOf40 (hs.below hB57) (by omega) (by first | omega | (simp; done) | (simp; omega)))) fun a150 h150 => ?_; clear h149
           refine dk0 28 (v := pt (blkOf v) (offOf v + i * 4 + 3)) h150 rfl rfl rfl fun a151 h151 => ?_; clear h150
           refine dk 29 (v := .int .u64 y21.ts) h151 rfl rfl rfl (fun x hx => by subst hx; exact (rn_load1 rfl rfl Try.isAgg27 ((sl_at (hs.below hB57) hy21) 3 _ rfl))) fun a152 h152 => ?_; clear h151
           refine dk0 30 (v := .bool (decide (y132.ts ≥ y21.ts))) h152 rfl rfl rfl fun a153 h153 => ?_; clear h152
           refine dk0 31 (v := .bool (decide (y132.ts ≥ y21.ts))) h153 rfl rfl rfl fun a154 h154 => ?_; clear h153
           refine dk0 32 (v := .bool (decide (y132.ts ≥ y21.ts))) h154 rfl rfl rfl fun a155 h155 => ?_; clear h154
           refine dr_done (by kernel_rfl) ?_
           refine co_then ?_
           cases hc156 : (decide (y132.ts ≥ y21.ts))
           ·
            rw [hc156] at h155
            have hp157 : ¬ (y132.ts ≥ y21.ts) := of_decide_eq_false hc156
            clear hc156
            refine co_false h155 rfl ?_
            refine wp_skip ?_
            refine co_blockN ?_
            refine co_then ?_
            refine co_reg ?_
            refine pk0 (v := .int .i64 ((i : Nat) : Int)) h155 rfl fun a158 h158 => ?_; clear h155
            refine pk (v := .int .i64 ((i + 1 : Nat) : Int)) h158 rfl (rn_arith' rfl rfl rfl rfl rfl rfl (IntWalk.i64_in _ (by omega)) (by omega)) fun a159 h159 => ?_; clear h158
            refine pk0 (v := .int .i64 ((i + 1 : Nat) : Int)) h159 rfl fun a160 h160 => ?_; clear h159
            refine pl_nil ?_
            refine co_then ?_
            refine ⟨(l.length - (i + 1)), by omega, ?_⟩
            have htw := tw_end (i := i) (by assumption : twN (l.take k) y21.client y21.req = 0) (by omega)
            have hbd : badT (l.take i) y21 = false := by rw [bad_at (j := (((i : Nat) : Int) - 1).toNat) (by omega) (by omega) hy132]; exact decide_eq_false (by omega)
            have hL' := rg_step (i := i) hL hy21 (by omega) htw hbd
            exact ⟨i + 1, h160.sub ⟨rfl, rfl, trivial⟩, rfl, by omega, by first | rfl | exact hL', hB57⟩
           ·
            rw [hc156] at h155
            have hp161 : y132.ts ≥ y21.ts := of_decide_eq_true hc156
            clear hc156
            refine co_true h155 rfl ?_
            refine co_seq ?_
            refine co_reg ?_
            refine pk0 (v := .int .i64 18) h155 rfl fun a162 h162 => ?_; clear h155
            refine pl_nil ?_
            refine co_then ?_
            refine wp_ret ?_
            refine co_blockR ?_
            refine co_thenR ?_
            refine co_thenR ?_
            refine co_blockR ?_
            refine co_thenR ?_
            refine co_ret1 h162 rfl rfl ?_
            have htw := tw_end (i := i) (by assumption : twN (l.take k) y21.client y21.req = 0) (by omega)
            have hbd : badT (l.take i) y21 = true := by rw [bad_at (j := (((i : Nat) : Int) - 1).toNat) (by omega) (by omega) hy132]; exact decide_eq_true (by omega)
            exact ⟨ret_int (rg_bad (i := i) hL hy21 (by omega) htw hbd), hB57⟩
          ·
           rw [hc140] at h139
           have hp163 : y132.ts = 0 := by first | simpa using hc140 | simpa [and_assoc] using hc140
           clear hc140
           refine dsk 19 h139 rfl rfl rfl fun a164 h164 => ?_; clear h139
           refine dsk 20 h164 rfl rfl rfl fun a165 h165 => ?_; clear h164
           refine dsk 21 h165 rfl rfl rfl fun a166 h166 => ?_; clear h165
           refine dsk 22 h166 rfl rfl rfl fun a167 h167 => ?_; clear h166
           refine dsk 23 h167 rfl rfl rfl fun a168 h168 => ?_; clear h167
           refine dsk 24 h168 rfl rfl rfl fun a169 h169 => ?_; clear h168
           refine dsk 25 h169 rfl rfl rfl fun a170 h170 => ?_; clear h169
           refine dsk 26 h170 rfl rfl rfl fun a171 h171 => ?_; clear h170
           refine dsk 27 h171 rfl rfl rfl fun a172 h172 => ?_; clear h171
           refine dsk 28 h172 rfl rfl rfl fun a173 h173 => ?_; clear h172
           refine dsk 29 h173 rfl rfl rfl fun a174 h174 => ?_; clear h173
           refine dsk 30 h174 rfl rfl rfl fun a175 h175 => ?_; clear h174
           refine dk0 31 (v := .bool true) h175 rfl rfl rfl fun a176 h176 => ?_; clear h175
           refine dk0 32 (v := .bool true) h176 rfl rfl rfl fun a177 h177 => ?_; clear h176
           refine dr_done (by kernel_rfl) ?_
           refine co_then ?_
           refine co_true h177 rfl ?_
           refine co_seq ?_
           refine co_reg ?_
           refine pk0 (v := .int .i64 18) h177 rfl fun a178 h178 => ?_; clear h177
           refine pl_nil ?_
           refine co_then ?_
           refine wp_ret ?_
           refine co_blockR ?_
           refine co_thenR ?_
           refine co_thenR ?_
           refine co_blockR ?_
           refine co_thenR ?_
           refine co_ret1 h178 rfl rfl ?_
           have htw := tw_end (i := i) (by assumption : twN (l.take k) y21.client y21.req = 0) (by omega)
           have hbd : badT (l.take i) y21 = true := by rw [bad_at (j := (((i : Nat) : Int) - 1).toNat) (by omega) (by omega) hy132]; exact decide_eq_true (by omega)
           exact ⟨ret_int (rg_bad (i := i) hL hy21 (by omega) htw hbd), hB57⟩
       ·
        rw [hc48] at h47
        have hp179 : ((k : Nat) : Int) < ((i : Nat) : Int) := of_decide_eq_true hc48
        clear hc48
        refine co_true h47 rfl ?_
        refine wp_skip ?_
        refine co_then ?_
        refine co_seq ?_
        refine wp_block ?_
        refine co_seq ?_
        refine dr_gen (fun x => Below w.heap.size w x) (by kernel_rfl) (fun w180 hg181 => ?_) (fun w180 hg181 => ?_)
        ·
         have hz182 := hg181.size
         have hB183 := hb_new hB43 hg181
         exact hB183
        have hz184 := hg181.size
        have hB185 := hb_new hB43 hg181
        refine dk0 0 (v := v) h47 rfl rfl hB185 fun a186 h186 => ?_; clear h47
        refine dk0 1 (v := .int .i64 ((k : Nat) : Int)) h186 rfl rfl hB185 fun a187 h187 => ?_; clear h186
        obtain ⟨y188, hy188⟩ : ∃ z, l[k]? = some z := ⟨_, List.getElem?_eq_getElem (by first | omega | (simp; done) | (simp; omega))⟩
        have oky188 := hok _ (List.mem_of_getElem? hy188)
        have k189 : 0 ≤ y188.ts := oky188.ts0
        have k190 : y188.ts < 18446744073709551616 := oky188.ts1
        refine dk 2 (v := pt (blkOf v) (offOf v + k * 4)) h187 rfl rfl hB185 (fun x hx => (rn_index rfl rfl rfl Try.underlying48 Try.sizeOf40 (hs.below hx) (by omega) (by first | omega | (simp; done) | (simp; omega)))) fun a191 h191 => ?_; clear h187
        refine dk 3 (v := .agg #[.int .i64 y188.client, .int .i64 y188.req, y188.ops, .int .u64 y188.ts]) h191 rfl rfl hB185 (fun x hx => (rn_loadN rfl rfl Try.underlying40 rfl (by kernel_rfl) (sl_at (hs.below hx) hy188))) fun a192 h192 => ?_; clear h191
        refine dk0 4 (v := v) h192 rfl rfl hB185 fun a193 h193 => ?_; clear h192
        refine dk0 5 (v := .int .i64 ((i : Nat) : Int)) h193 rfl rfl hB185 fun a194 h194 => ?_; clear h193
        refine dk 6 (v := pt (blkOf v) (offOf v + i * 4)) h194 rfl rfl hB185 (fun x hx => (rn_index rfl rfl rfl Try.underlying48 Try.sizeOf40 (hs.below hx) (by omega) (by first | omega | (simp; done) | (simp; omega)))) fun a195 h195 => ?_; clear h194
        refine dk 7 (v := .agg #[.int .i64 y21.client, .int .i64 y21.req, y21.ops, .int .u64 y21.ts]) h195 rfl rfl hB185 (fun x hx => (rn_loadN rfl rfl Try.underlying40 rfl (by kernel_rfl) (sl_at (hs.below hx) hy21))) fun a196 h196 => ?_; clear h195
        refine d1 8 h196 rfl rfl (op_call (args := #[.agg #[.int .i64 y188.client, .int .i64 y188.req, y188.ops, .int .u64 y188.ts], .agg #[.int .i64 y21.client, .int .i64 y21.req, y21.ops, .int .u64 y21.ts]]) (R := fun res xw => res = .bool ((y188.client == (y21.client : Int)) && (y188.req == (y21.req : Int))) ∧ Below w180.heap.size w180 xw) rfl rfl rfl (by kernel_rfl) (by kernel_rfl) (Try.call38 _ _) (ritemTwins_any y188.client y188.req y188.ops y188.ts y21.client y21.req y21.ops y21.ts w180 ) (by rintro e x ⟨rfl, hb199⟩; exact ⟨_, rfl, ⟨rfl, hb199⟩⟩)) ?_ ?_; clear h196
        ·
         rintro _ w198 ⟨rfl, hb199⟩
         have hz200 := hb199.size
         have hB201 := hb_call hB185 hb199
         exact hB201
        rintro _ w198 a197 ⟨rfl, hb199⟩ h197
        have hz200 := hb199.size
        refine dr_done (by kernel_rfl) ?_
        refine co_then ?_
        have hB202 := hb_call hB185 hb199
        cases hc201 : (((y188.client == (y21.client : Int)) && (y188.req == (y21.req : Int))))
        ·
         rw [hc201] at h197
         have hp203 : ¬ (y188.client = y21.client ∧ y188.req = y21.req) := by first | simpa using hc201 | simpa [and_assoc] using hc201
         clear hc201
         refine co_false h197 rfl ?_
         refine wp_skip ?_
         refine co_blockN ?_
         refine co_then ?_
         refine co_reg ?_
         refine pk0 (v := .int .i64 ((k : Nat) : Int)) h197 rfl fun a204 h204 => ?_; clear h197
         refine pk (v := .int .i64 ((k + 1 : Nat) : Int)) h204 rfl (rn_arith' rfl rfl rfl rfl rfl rfl (IntWalk.i64_in _ (by omega)) (by omega)) fun a205 h205 => ?_; clear h204
         refine pk0 (v := .int .i64 ((k + 1 : Nat) : Int)) h205 rfl fun a206 h206 => ?_; clear h205
         refine pl_nil ?_
         refine co_then ?_
         refine ⟨(i - (k + 1)), by omega, ?_⟩
         have htn := tw_no (by assumption) hy188 (by omega)
         exact ⟨k + 1, h206.sub ⟨rfl, rfl, rfl, trivial⟩, rfl, by omega, by first | (simp [twN]; done) | exact htn, hB202⟩
        ·
         rw [hc201] at h197
         have hp207 : y188.client = y21.client ∧ y188.req = y21.req := by first | simpa using hc201 | simpa [and_assoc] using hc201
         clear hc201
         refine co_true h197 rfl ?_
         refine co_seq ?_
         refine co_reg ?_
         refine pk0 (v := .int .i64 18) h197 rfl fun a208 h208 => ?_; clear h197
         refine pl_nil ?_
         refine co_then ?_
         refine wp_ret ?_
         refine co_blockR ?_
         refine co_thenR ?_
         refine co_thenR ?_
         refine co_blockR ?_
         refine co_thenR ?_
         refine co_blockR ?_
         refine co_thenR ?_
         refine co_thenR ?_
         refine co_blockR ?_
         refine co_thenR ?_
         refine co_ret1 h208 rfl rfl ?_
         exact ⟨ret_int (rg_tw (i := i) hL hy21 (by omega) (tw_yes hy188 (by omega) (by omega))), hB202⟩
    ·
     rw [hc33] at h32
     have hp209 : chkB y21.client y21.req y21.opl ≠ 0 := by first | simpa using hc33 | simpa [and_assoc] using hc33
     clear hc33
     refine co_true h32 rfl ?_
     refine co_seq ?_
     refine co_reg ?_
     refine pk0 (v := .int .i64 (chkB y21.client y21.req y21.opl)) h32 rfl fun a210 h210 => ?_; clear h32
     refine pk0 (v := .int .i64 (chkB y21.client y21.req y21.opl)) h210 rfl fun a211 h211 => ?_; clear h210
     refine pl_nil ?_
     refine co_then ?_
     refine wp_ret ?_
     refine co_thenR ?_
     refine co_blockR ?_
     refine co_thenR ?_
     refine co_thenR ?_
     refine co_blockR ?_
     refine co_thenR ?_
     refine co_ret1 h211 rfl rfl ?_
     exact ⟨ret_int (rg_chk (i := i) hL hy21 (by omega)), hB34⟩
set_option maxRecDepth 100000 in
theorem partsL_any (v : Value) (l : List NoteX) (w : World) (hs : SliceOf noteE 18 w v l) (hok : ∀ z ∈ l, NoteOk w z) :
    Calls Try.prog 6 #[v] w fun e w' => ∃ (r : Int), e = .returned (.int .i64 r) ∧ Below w.heap.size w w' := by
 have hB0 := Below.refl w.heap.size w
 have hl_hs := sl_len hs
 refine co_enter (n := 39) Try.func6 rfl rfl rfl [(0, v)] rfl (fun a h0 => ?_)
 refine co_seq ?_
 refine co_reg ?_
 refine pk0 (v := .int .i64 0) h0 rfl fun a1 h1 => ?_; clear h0
 refine pl_nil ?_
 refine co_then ?_
 refine co_seq ?_
 refine co_reg ?_
 refine pk0 (v := .int .i64 0) h1 rfl fun a2 h2 => ?_; clear h1
 refine pl_nil ?_
 refine co_then ?_
 refine co_seq ?_
 refine co_seq ?_
 refine co_reg ?_
 refine pk0 (v := .int .i64 0) h2 rfl fun a3 h3 => ?_; clear h2
 refine pl_nil ?_
 refine co_then ?_
 refine wp_block ?_
 have h4 : Slots 39 [(0, v), (3, .int .i64 0), (4, .int .i64 0)] _ := h3.sub ⟨rfl, rfl, rfl, trivial⟩; clear h3
 refine co_loop (fun mm a x => ∃ (i : Nat) (z : Int), Slots 39 [(0, v), (3, .int .i64 z), (4, .int .i64 ((i : Nat) : Int))] a ∧ mm = l.length - i ∧ (i ≤ l.length) ∧ (i ≤ 60) ∧ Below w.heap.size w x) (l.length - 0) ?_ ?_
 · exact ⟨0, 0, h4.sub ⟨rfl, rfl, (slot_eq rfl (congrArg (Value.int .i64) (by first | rfl | omega))), trivial⟩, rfl, by omega, by omega, hB0⟩
 · rintro k5 a6 w7 ⟨i, z, h6, rfl, hi8, hi9, hB10⟩
   have hz11 := hB10.size
   refine co_seq ?_
   refine co_seq ?_
   refine co_reg ?_
   refine pk0 (v := .int .i64 ((i : Nat) : Int)) h6 rfl fun a12 h12 => ?_; clear h6
   refine pk0 (v := v) h12 rfl fun a13 h13 => ?_; clear h12
   refine pk (v := .int .i64 ((l.length : Nat) : Int)) h13 rfl (rn_len rfl rfl Try.underlying22 (hs.below hB10)) fun a14 h14 => ?_; clear h13
   refine pk0 (v := .bool (decide (((i : Nat) : Int) < ((l.length : Nat) : Int)))) h14 rfl fun a15 h15 => ?_; clear h14
   refine pk0 (v := .bool (decide (((i : Nat) : Int) < ((l.length : Nat) : Int)))) h15 rfl fun a16 h16 => ?_; clear h15
   cases hc17 : (decide (((i : Nat) : Int) < ((l.length : Nat) : Int)))
   ·
    rw [hc17] at h16
    have hp18 : ¬ (((i : Nat) : Int) < ((l.length : Nat) : Int)) := of_decide_eq_false hc17
    clear hc17
    refine psk h16 rfl fun a19 h19 => ?_; clear h16
    refine psk h19 rfl fun a20 h20 => ?_; clear h19
    refine pk0 (v := .bool false) h20 rfl fun a21 h21 => ?_; clear h20
    refine pl_nil ?_
    refine co_then ?_
    refine co_false h21 rfl ?_
    refine wp_exit ?_
    refine co_thenX ?_
    refine co_thenX ?_
    refine co_blockX ?_
    refine co_then ?_
    refine co_seq ?_
    refine co_reg ?_
    refine pk0 (v := .int .i64 z) h21 rfl fun a22 h22 => ?_; clear h21
    refine pk0 (v := .int .i64 z) h22 rfl fun a23 h23 => ?_; clear h22
    refine pl_nil ?_
    refine co_then ?_
    refine wp_ret ?_
    refine co_ret1 h23 rfl rfl ?_
    exact ⟨_, rfl, hB10⟩
   ·
    rw [hc17] at h16
    have hp24 : ((i : Nat) : Int) < ((l.length : Nat) : Int) := of_decide_eq_true hc17
    clear hc17
    refine pk0 (v := .int .i64 ((i : Nat) : Int)) h16 rfl fun a25 h25 => ?_; clear h16
    refine pk0 (v := .bool (decide (((i : Nat) : Int) < 60))) h25 rfl fun a26 h26 => ?_; clear h25
    refine pk0 (v := .bool (decide (((i : Nat) : Int) < 60))) h26 rfl fun a27 h27 => ?_; clear h26
    refine pl_nil ?_
    refine co_then ?_
    cases hc28 : (decide (((i : Nat) : Int) < 60))
    ·
     rw [hc28] at h27
     have hp29 : ¬ (((i : Nat) : Int) < 60) := of_decide_eq_false hc28
     clear hc28
     refine co_false h27 rfl ?_
     refine wp_exit ?_
     refine co_thenX ?_
     refine co_thenX ?_
     refine co_blockX ?_
     refine co_then ?_
     refine co_seq ?_
     refine co_reg ?_
     refine pk0 (v := .int .i64 z) h27 rfl fun a30 h30 => ?_; clear h27
     refine pk0 (v := .int .i64 z) h30 rfl fun a31 h31 => ?_; clear h30
     refine pl_nil ?_
     refine co_then ?_
     refine wp_ret ?_
     refine co_ret1 h31 rfl rfl ?_
     exact ⟨_, rfl, hB10⟩
    ·
     rw [hc28] at h27
     have hp32 : ((i : Nat) : Int) < 60 := of_decide_eq_true hc28
     clear hc28
     refine co_true h27 rfl ?_
     refine wp_skip ?_
     refine co_then ?_
     refine co_seq ?_
     refine wp_block ?_
     refine dr_eq (by kernel_rfl) (fun w33 hg34 => ?_)
     have hz35 := hg34.size
     refine dk0 0 (v := .int .i64 z) h27 rfl rfl rfl fun a36 h36 => ?_; clear h27
     refine dk0 1 (v := v) h36 rfl rfl rfl fun a37 h37 => ?_; clear h36
     refine dk0 2 (v := .int .i64 ((i : Nat) : Int)) h37 rfl rfl rfl fun a38 h38 => ?_; clear h37
     have hB40 := hb_new hB10 hg34
     obtain ⟨y39, hy39⟩ : ∃ z, l[i]? = some z := ⟨_, List.getElem?_eq_getElem (by first | omega | (simp; done) | (simp; omega))⟩
     have oky39 := hok _ (List.mem_of_getElem? hy39)
     refine dk 3 (v := pt (blkOf v) (offOf v + i * 18)) h38 rfl rfl rfl (fun x hx => by subst hx; exact (rn_index rfl rfl rfl Try.underlying22 Try.sizeOf46 (hs.below hB40) (by omega) (by first | omega | (simp; done) | (simp; omega)))) fun a41 h41 => ?_; clear h38
     refine dk0 4 (v := pt (blkOf v) (offOf v + i * 18 + 3)) h41 rfl rfl rfl fun a42 h42 => ?_; clear h41
     refine dk0 5 (v := pt (blkOf v) (offOf v + i * 18 + 3 + 1)) h42 rfl rfl rfl fun a43 h43 => ?_; clear h42
     refine dk 6 (v := y39.mv) h43 rfl rfl rfl (fun x hx => by subst hx; exact (rn_load1 rfl rfl Try.isAgg29 ((sl_at (hs.below hB40) hy39) 4 _ rfl))) fun a44 h44 => ?_; clear h43
     refine dk 7 (v := .int .i64 ((y39.d.ms.length : Nat) : Int)) h44 rfl rfl rfl (fun x hx => by subst hx; exact (rn_len rfl rfl Try.underlying29 (oky39.hm.below hB40))) fun a45 h45 => ?_; clear h44
     refine dk0 8 (v := v) h45 rfl rfl rfl fun a46 h46 => ?_; clear h45
     refine dk0 9 (v := .int .i64 ((i : Nat) : Int)) h46 rfl rfl rfl fun a47 h47 => ?_; clear h46
     refine dk 10 (v := pt (blkOf v) (offOf v + i * 18)) h47 rfl rfl rfl (fun x hx => by subst hx; exact (rn_index rfl rfl rfl Try.underlying22 Try.sizeOf46 (hs.below hB40) (by omega) (by first | omega | (simp; done) | (simp; omega)))) fun a48 h48 => ?_; clear h47
     refine dk0 11 (v := pt (blkOf v) (offOf v + i * 18 + 6)) h48 rfl rfl rfl fun a49 h49 => ?_; clear h48
     refine dk 12 (v := y39.lv) h49 rfl rfl rfl (fun x hx => by subst hx; exact (rn_load1 rfl rfl Try.isAgg35 ((sl_at (hs.below hB40) hy39) 6 _ rfl))) fun a50 h50 => ?_; clear h49
     refine dk 13 (v := .int .i64 ((y39.d.lg.length : Nat) : Int)) h50 rfl rfl rfl (fun x hx => by subst hx; exact (rn_len rfl rfl Try.underlying35 (oky39.hg.below hB40))) fun a51 h51 => ?_; clear h50
     refine dk0 14 (v := v) h51 rfl rfl rfl fun a52 h52 => ?_; clear h51
     refine dk0 15 (v := .int .i64 ((i : Nat) : Int)) h52 rfl rfl rfl fun a53 h53 => ?_; clear h52
     refine dk 16 (v := pt (blkOf v) (offOf v + i * 18)) h53 rfl rfl rfl (fun x hx => by subst hx; exact (rn_index rfl rfl rfl Try.underlying22 Try.sizeOf46 (hs.below hB40) (by omega) (by first | omega | (simp; done) | (simp; omega)))) fun a54 h54 => ?_; clear h53
     refine dk0 17 (v := pt (blkOf v) (offOf v + i * 18 + 7)) h54 rfl rfl rfl fun a55 h55 => ?_; clear h54
     refine dk0 18 (v := pt (blkOf v) (offOf v + i * 18 + 7)) h55 rfl rfl rfl fun a56 h56 => ?_; clear h55
     refine dk0 19 (v := pt (blkOf v) (offOf v + i * 18 + 7 + 2)) h56 rfl rfl rfl fun a57 h57 => ?_; clear h56
     refine dk 20 (v := y39.ev) h57 rfl rfl rfl (fun x hx => by subst hx; exact (rn_load1 rfl rfl Try.isAgg36 ((sl_at (hs.below hB40) hy39) 9 _ rfl))) fun a58 h58 => ?_; clear h57
     refine dk 21 (v := .int .i64 ((y39.d.el.length : Nat) : Int)) h58 rfl rfl rfl (fun x hx => by subst hx; exact (rn_len rfl rfl Try.underlying36 (oky39.he.below hB40))) fun a59 h59 => ?_; clear h58
     have hmm60 := mxI_p z ((y39.d.ms.length : Nat) : Int)
     have hmm61 := mxI_p (mxI z ((y39.d.ms.length : Nat) : Int)) ((y39.d.lg.length : Nat) : Int)
     have hmm62 := mxI_p (mxI (mxI z ((y39.d.ms.length : Nat) : Int)) ((y39.d.lg.length : Nat) : Int)) ((y39.d.el.length : Nat) : Int)
     refine dk0 22 (v := .int .i64 (mxI (mxI (mxI z ((y39.d.ms.length : Nat) : Int)) ((y39.d.lg.length : Nat) : Int)) ((y39.d.el.length : Nat) : Int))) h59 rfl rfl rfl fun a63 h63 => ?_; clear h59
     refine dk0 23 (v := .int .i64 (mxI (mxI (mxI z ((y39.d.ms.length : Nat) : Int)) ((y39.d.lg.length : Nat) : Int)) ((y39.d.el.length : Nat) : Int))) h63 rfl rfl rfl fun a64 h64 => ?_; clear h63
     refine dr_done (by kernel_rfl) ?_
     refine co_blockN ?_
     refine co_then ?_
     refine co_reg ?_
     refine pk0 (v := .int .i64 ((i : Nat) : Int)) h64 rfl fun a65 h65 => ?_; clear h64
     refine pk (v := .int .i64 ((i + 1 : Nat) : Int)) h65 rfl (rn_arith' rfl rfl rfl rfl rfl rfl (IntWalk.i64_in _ (by omega)) (by omega)) fun a66 h66 => ?_; clear h65
     refine pk0 (v := .int .i64 ((i + 1 : Nat) : Int)) h66 rfl fun a67 h67 => ?_; clear h66
     refine pl_nil ?_
     refine co_then ?_
     refine ⟨(l.length - (i + 1)), by omega, ?_⟩
     exact ⟨i + 1, (mxI (mxI (mxI z ((y39.d.ms.length : Nat) : Int)) ((y39.d.lg.length : Nat) : Int)) ((y39.d.el.length : Nat) : Int)), h67.sub ⟨rfl, rfl, rfl, trivial⟩, rfl, by omega, by omega, hB40⟩
set_option maxRecDepth 100000 in
set_option maxHeartbeats 3200000 in
theorem rstateRight_l (v : Value) (l : List NoteX) (w : World) (hs : SliceOf noteE 18 w v l) (hok : ∀ z ∈ l, NoteOk w z) :
    Calls Try.prog 3 #[v] w fun e w' => e = .returned (.bool true) ∧ Below w.heap.size w w' := by
 have hB0 := Below.refl w.heap.size w
 have hl_hs := sl_len hs
 refine co_enter (n := 76) Try.func3 rfl rfl rfl [(0, v)] rfl (fun a h0 => ?_)
 refine co_seq ?_
 refine co_reg ?_
 refine pk0 (v := .bool false) h0 rfl fun a1 h1 => ?_; clear h0
 refine pl_nil ?_
 refine co_then ?_
 refine co_seq ?_
 refine co_seq ?_
 refine co_reg ?_
 refine pk0 (v := v) h1 rfl fun a2 h2 => ?_; clear h1
 refine pw h2 rfl (op_call (args := #[v]) (R := fun res xw => ∃ r : Int, res = .int .i64 r ∧ Below w.heap.size w xw) rfl rfl rfl (by kernel_rfl) (by kernel_rfl) (Try.call6 _ _) (partsL_any v l w hs hok) (by rintro e x ⟨r, rfl, hb6⟩; exact ⟨_, rfl, ⟨r, rfl, hb6⟩⟩)) ?_; clear h2
 rintro _ w4 a3 ⟨r5, rfl, hb6⟩ h3
 have hz7 := hb6.size
 refine pk0 (v := .bool (decide (r5 > 20))) h3 rfl fun a8 h8 => ?_; clear h3
 refine pl_nil ?_
 refine co_then ?_
 have hB10 := hb_call hB0 hb6
 cases hc9 : (decide (r5 > 20))
 ·
  rw [hc9] at h8
  have hp11 : ¬ (r5 > 20) := of_decide_eq_false hc9
  clear hc9
  refine co_false h8 rfl ?_
  refine wp_skip ?_
  refine co_then ?_
  refine co_seq ?_
  refine co_reg ?_
  refine pw h8 rfl (op_call (args := #[]) (R := fun res xw => ∃ N S, res = pt N 0 ∧ StO S xw N [] 0 0 ∧ (∀ q, S q → w4.heap.size ≤ q) ∧ Below w4.heap.size w4 xw) rfl rfl rfl (by kernel_rfl) (by kernel_rfl) (Try.call8 _ _) (stNew w4) (by rintro e x ⟨N, S, rfl, h⟩; exact ⟨_, rfl, N, S, rfl, h⟩)) ?_; clear h8
  rintro _ w13 a12 ⟨N14, S15, rfl, hO16, hlo17, hb18⟩ h12
  have hz19 := hb18.size
  have hlo20 : ∀ q, S15 q → w.heap.size ≤ q := fun q hq => by have := hlo17 q hq; omega
  refine pk0 (v := pt N14 0) h12 rfl fun a21 h21 => ?_; clear h12
  refine pl_nil ?_
  refine co_then ?_
  refine co_seq ?_
  refine co_seq ?_
  refine co_reg ?_
  refine pk0 (v := .int .i64 0) h21 rfl fun a22 h22 => ?_; clear h21
  refine pl_nil ?_
  refine co_then ?_
  refine wp_block ?_
  have hlo9 := hlo20
  have h23 : Slots 76 [(0, v), (3, pt N14 0), (4, .int .i64 0)] _ := h22.sub ⟨rfl, rfl, rfl, trivial⟩; clear h22
  refine co_loop (fun mm a x => ∃ (i : Nat) (SA : Nat → Prop) (LA : List EntT) (eA : Int) (zA : Int), Slots 76 [(0, v), (3, pt N14 0), (4, .int .i64 ((i : Nat) : Int))] a ∧ mm = l.length - i ∧ (i ≤ l.length) ∧ (i ≤ 40) ∧ (∀ q, SA q → w.heap.size ≤ q) ∧ StO SA x N14 LA eA zA ∧ Below w.heap.size w x) (l.length - 0) ?_ ?_
  have hB24 := hb_call hB10 hb18
  · exact ⟨0, S15, [], 0, 0, h23.sub ⟨rfl, rfl, (slot_eq rfl (congrArg (Value.int .i64) (by first | rfl | omega))), trivial⟩, rfl, by omega, by omega, by exact hlo9, hO16, hB24⟩
  · rintro k25 a26 w27 ⟨i, SA, LA, eA, zA, h26, rfl, hi28, hi29, hi30, hf31, hB32⟩
    have hz33 := hB32.size
    have hlo34 : ∀ q, SA q → w.heap.size ≤ q := by assumption
    refine co_seq ?_
    refine co_seq ?_
    refine co_reg ?_
    refine pk0 (v := .int .i64 ((i : Nat) : Int)) h26 rfl fun a35 h35 => ?_; clear h26
    refine pk0 (v := v) h35 rfl fun a36 h36 => ?_; clear h35
    refine pk (v := .int .i64 ((l.length : Nat) : Int)) h36 rfl (rn_len rfl rfl Try.underlying22 (hs.below hB32)) fun a37 h37 => ?_; clear h36
    refine pk0 (v := .bool (decide (((i : Nat) : Int) < ((l.length : Nat) : Int)))) h37 rfl fun a38 h38 => ?_; clear h37
    refine pk0 (v := .bool (decide (((i : Nat) : Int) < ((l.length : Nat) : Int)))) h38 rfl fun a39 h39 => ?_; clear h38
    cases hc40 : (decide (((i : Nat) : Int) < ((l.length : Nat) : Int)))
    ·
     rw [hc40] at h39
     have hp41 : ¬ (((i : Nat) : Int) < ((l.length : Nat) : Int)) := of_decide_eq_false hc40
     clear hc40
     refine psk h39 rfl fun a42 h42 => ?_; clear h39
     refine psk h42 rfl fun a43 h43 => ?_; clear h42
     refine pk0 (v := .bool false) h43 rfl fun a44 h44 => ?_; clear h43
     refine pl_nil ?_
     refine co_then ?_
     refine co_false h44 rfl ?_
     refine wp_exit ?_
     refine co_thenX ?_
     refine co_thenX ?_
     refine co_blockX ?_
     refine co_then ?_
     refine co_seq ?_
     refine co_reg ?_
     refine pw h44 rfl (op_call (args := #[]) (R := fun res xw => res = .bool true ∧ Below w27.heap.size w27 xw) rfl rfl rfl (by kernel_rfl) (by kernel_rfl) (Try.call7 _ _) (awake30 w27) (by rintro e x ⟨rfl, h⟩; exact ⟨_, rfl, rfl, h⟩)) ?_; clear h44
     rintro _ w46 a45 ⟨rfl, hb47⟩ h45
     have hz48 := hb47.size
     have ho49 := StO.ofS hf31
     refine pk0 (v := .bool true) h45 rfl fun a50 h50 => ?_; clear h45
     refine pl_nil ?_
     refine co_then ?_
     refine wp_ret ?_
     refine co_ret1 h50 rfl rfl ?_
     have hB51 := hb_call hB32 hb47
     exact ⟨rfl, hB51⟩
    ·
     rw [hc40] at h39
     have hp52 : ((i : Nat) : Int) < ((l.length : Nat) : Int) := of_decide_eq_true hc40
     clear hc40
     refine pk0 (v := .int .i64 ((i : Nat) : Int)) h39 rfl fun a53 h53 => ?_; clear h39
     refine pk0 (v := .bool (decide (((i : Nat) : Int) < 40))) h53 rfl fun a54 h54 => ?_; clear h53
     refine pk0 (v := .bool (decide (((i : Nat) : Int) < 40))) h54 rfl fun a55 h55 => ?_; clear h54
     refine pl_nil ?_
     refine co_then ?_
     cases hc56 : (decide (((i : Nat) : Int) < 40))
     ·
      rw [hc56] at h55
      have hp57 : ¬ (((i : Nat) : Int) < 40) := of_decide_eq_false hc56
      clear hc56
      refine co_false h55 rfl ?_
      refine wp_exit ?_
      refine co_thenX ?_
      refine co_thenX ?_
      refine co_blockX ?_
      refine co_then ?_
      refine co_seq ?_
      refine co_reg ?_
      refine pw h55 rfl (op_call (args := #[]) (R := fun res xw => res = .bool true ∧ Below w27.heap.size w27 xw) rfl rfl rfl (by kernel_rfl) (by kernel_rfl) (Try.call7 _ _) (awake30 w27) (by rintro e x ⟨rfl, h⟩; exact ⟨_, rfl, rfl, h⟩)) ?_; clear h55
      rintro _ w59 a58 ⟨rfl, hb60⟩ h58
      have hz61 := hb60.size
      have ho62 := StO.ofS hf31
      refine pk0 (v := .bool true) h58 rfl fun a63 h63 => ?_; clear h58
      refine pl_nil ?_
      refine co_then ?_
      refine wp_ret ?_
      refine co_ret1 h63 rfl rfl ?_
      have hB64 := hb_call hB32 hb60
      exact ⟨rfl, hB64⟩
     ·
      rw [hc56] at h55
      have hp65 : ((i : Nat) : Int) < 40 := of_decide_eq_true hc56
      clear hc56
      refine co_true h55 rfl ?_
      refine wp_skip ?_
      refine co_then ?_
      refine co_seq ?_
      refine wp_block ?_
      refine co_seq ?_
      refine co_reg ?_
      refine pk0 (v := pt N14 0) h55 rfl fun a66 h66 => ?_; clear h55
      refine pw h66 rfl (op_call (args := #[pt N14 0]) (R := fun res xw => res = .int .u64 zA ∧ w27 = xw) rfl rfl rfl (by kernel_rfl) (by kernel_rfl) (Try.call9 _ _) (stHorizon w27 hf31) (by rintro e x ⟨rfl, rfl⟩; exact ⟨_, rfl, rfl, rfl⟩)) ?_; clear h66
      rintro _ _ a67 ⟨rfl, rfl⟩ h67
      refine pk0 (v := .int .u64 zA) h67 rfl fun a69 h69 => ?_; clear h67
      refine pl_nil ?_
      refine co_then ?_
      refine co_seq ?_
      refine co_reg ?_
      refine pk0 (v := pt N14 0) h69 rfl fun a70 h70 => ?_; clear h69
      refine pw h70 rfl (op_call (args := #[pt N14 0]) (R := fun res xw => ∃ (u : Value) (fl : Int), res = .agg #[.int .i64 eA, u, .int .u64 fl] ∧ Below w27.heap.size w27 xw) rfl rfl rfl (by kernel_rfl) (by kernel_rfl) (Try.call10 _ _) (stConf w27 hf31) (by rintro e x ⟨u, fl, h0, h⟩; exact ⟨_, h0, u, fl, rfl, h⟩)) ?_; clear h70
      rintro _ w72 a71 ⟨u73, fl74, rfl, hb75⟩ h71
      have hz76 := hb75.size
      have ho77 := StO.ofS hf31
      refine pk0 (v := .int .i64 eA) h71 rfl fun a78 h78 => ?_; clear h71
      refine pk0 (v := .int .i64 eA) h78 rfl fun a79 h79 => ?_; clear h78
      refine pl_nil ?_
      refine co_then ?_
      refine co_seq ?_
      refine co_reg ?_
      refine pk0 (v := pt N14 0) h79 rfl fun a80 h80 => ?_; clear h79
      refine pk0 (v := v) h80 rfl fun a81 h81 => ?_; clear h80
      refine pk0 (v := .int .i64 ((i : Nat) : Int)) h81 rfl fun a82 h82 => ?_; clear h81
      have hB84 := hb_call hB32 hb75
      obtain ⟨y83, hy83⟩ : ∃ z, l[i]? = some z := ⟨_, List.getElem?_eq_getElem (by first | omega | (simp; done) | (simp; omega))⟩
      have oky83 := hok _ (List.mem_of_getElem? hy83)
      refine pk (v := pt (blkOf v) (offOf v + i * 18)) h82 rfl (rn_index rfl rfl rfl Try.underlying22 Try.sizeOf46 (hs.below hB84) (by omega) (by first | omega | (simp; done) | (simp; omega))) fun a85 h85 => ?_; clear h82
      refine pk (v := .agg #[.int .i64 y83.d.k, .int .i64 y83.d.n, .int .u64 y83.d.t, .int .i64 y83.d.ep, y83.mv, .int .u64 y83.d.fl, y83.lv, .int .i64 y83.d.ec, .int .i64 y83.d.er, y83.ev, .int .u64 y83.d.ets, .int .i64 y83.d.pid, .int .u64 y83.d.pat, .int .i64 y83.d.plf, .int .i64 y83.d.sc, .int .i64 y83.d.sr, .int .i64 y83.d.se, .int .i64 y83.d.sp]) h85 rfl (rn_loadN rfl rfl Try.underlying46 rfl (by kernel_rfl) (sl_at (hs.below hB84) hy83)) fun a86 h86 => ?_; clear h85
      have hO90 := StO.gr hf31 (below_grown hb75) (fun k e => by cases e)
      have ho89 := StO.ofS hO90
      refine pw h86 rfl (op_call (args := #[pt N14 0, .agg #[.int .i64 y83.d.k, .int .i64 y83.d.n, .int .u64 y83.d.t, .int .i64 y83.d.ep, y83.mv, .int .u64 y83.d.fl, y83.lv, .int .i64 y83.d.ec, .int .i64 y83.d.er, y83.ev, .int .u64 y83.d.ets, .int .i64 y83.d.pid, .int .u64 y83.d.pat, .int .i64 y83.d.plf, .int .i64 y83.d.sc, .int .i64 y83.d.sr, .int .i64 y83.d.se, .int .i64 y83.d.sp]]) (R := fun res xw => ∃ r : Int, ∃ L' : List EntT, ∃ ep' : Int, ∃ hz' : Int, ∃ S' : Nat → Prop, res = .int .i64 r ∧ StO S' xw N14 L' ep' hz' ∧ (ApR y83.d eA zA LA r ep' hz' L') ∧ Grew SA S' w72 xw) rfl rfl rfl (by kernel_rfl) (by kernel_rfl) (Try.call11 _ _) (stApply w72 y83.d y83.mv y83.lv y83.ev hO90 (oky83.hm.below hB84) (oky83.hg.below hB84) (oky83.he.below hB84) oky83.hR (sl_off oky83.hm (memE_ne _) hlo34) (sl_off oky83.hg (intE_ne _) hlo34) (sl_off oky83.he (opE_ne _) hlo34)) (by rintro e x ⟨r, L', ep', hz', S', h0, h⟩; exact ⟨_, h0, r, L', ep', hz', S', rfl, h⟩)) ?_; clear h86
      rintro _ w88 a87 ⟨r91, L'92, ep'93, hz'94, S95, rfl, hO96, hq98, hx97⟩ h87
      have hlo100 : ∀ q, S95 q → w.heap.size ≤ q := hx97.lo hlo34 (by omega)
      have hB99 := hbL hB84 hlo34 hx97.but
      have hz101 := hB99.size
      have hz102 := hx97.but.size
      have hu103 := ApR.up hq98
      refine pk0 (v := .int .i64 r91) h87 rfl fun a104 h104 => ?_; clear h87
      refine pl_nil ?_
      refine co_then ?_
      refine co_seq ?_
      refine dr_gen (fun x => Below w.heap.size w x) (by kernel_rfl) (fun w105 hg106 => ?_) (fun w105 hg106 => ?_)
      ·
       have hz107 := hg106.size
       have hB108 := hb_new hB99 hg106
       exact hB108
      have hz109 := hg106.size
      have hB110 := hb_new hB99 hg106
      refine dk0 0 (v := pt N14 0) h104 rfl rfl hB110 fun a111 h111 => ?_; clear h104
      have hO115 := StO.gr hO96 hg106 (fun k e => by cases e)
      have ho114 := StO.ofS hO115
      refine d1 1 h111 rfl rfl (op_call (args := #[pt N14 0]) (R := fun res xw => ∃ L2 : List EntT, ∃ u2 : Value, ∃ S' : Nat → Prop, res = u2 ∧ StO S' xw N14 L'92 ep'93 hz'94 ∧ (xw.ownsRow w105.heap.size 40 4 u2 L2.length (L2.flatMap entE)) ∧ (EntsK (fun _ => False) w105.heap.size xw L2) ∧ (L2.map e0 = L'92.map e0) ∧ Grew S95 S' w105 xw) rfl rfl rfl (by kernel_rfl) (by kernel_rfl) (Try.call13 _ _) (stAll w105 hO115) (by rintro e x ⟨L2, u2, S', h0, h⟩; exact ⟨_, h0, L2, u2, S', rfl, h⟩)) ?_ ?_; clear h111
      ·
       rintro u2117 w113 ⟨L2116, _, S118, rfl, hO119, hq121, hq122, hq123, hx120⟩
       have hlo125 : ∀ q, S118 q → w.heap.size ≤ q := hx120.lo hlo100 (by omega)
       have hB124 := hbL hB110 hlo100 hx120.but
       have hz126 := hB124.size
       have hz127 := hx120.but.size
       exact hB124
      rintro u2117 w113 a112 ⟨L2116, _, S118, rfl, hO119, hq121, hq122, hq123, hx120⟩ h112
      have hlo125 : ∀ q, S118 q → w.heap.size ≤ q := hx120.lo hlo100 (by omega)
      have hB124 := hbL hB110 hlo100 hx120.but
      have hz126 := hB124.size
      have hz127 := hx120.but.size
      refine d1 2 h112 rfl rfl (op_call (args := #[u2117]) (R := fun res xw => res = .int .i64 0 ∧ Below w113.heap.size w113 xw) rfl rfl rfl (by kernel_rfl) (by kernel_rfl) (Try.call12 _ _) (ritemRight_any u2117 L2116 w113 (row_sl hq121 entE_len) (entsK_got hq122)) (by rintro e x ⟨h0, h⟩; rw [RI.right (RI.e0 (hq123).symm (StO.ri hO119))] at h0; exact ⟨_, h0, rfl, h⟩)) ?_ ?_; clear h112
      ·
       rintro _ w129 ⟨rfl, hb130⟩
       have hz131 := hb130.size
       have ho132 := StO.ofS hO119
       have hB133 := hb_call hB124 hb130
       exact hB133
      rintro _ w129 a128 ⟨rfl, hb130⟩ h128
      have hz131 := hb130.size
      have ho132 := StO.ofS hO119
      have hB133 := hb_call hB124 hb130
      refine dk0 3 (v := .bool ((0 : Int) != 0)) h128 rfl rfl hB133 fun a134 h134 => ?_; clear h128
      refine dk0 4 (v := .bool ((0 : Int) != 0)) h134 rfl rfl hB133 fun a135 h135 => ?_; clear h134
      have hc136 : ((0 : Int) != 0) = false := by first | (simp; done) | (simp; omega) | exact beq_false_of_ne (by omega) | exact beq_iff_eq.2 (by omega)
      rw [hc136] at h135; clear hc136
      refine dk0 5 (v := pt N14 0) h135 rfl rfl hB133 fun a137 h137 => ?_; clear h135
      refine dk0 7 (v := .int .u64 zA) h137 rfl rfl hB133 fun a138 h138 => ?_; clear h137
      have hO141 := StO.gr hO119 (below_grown hb130) (fun k e => by cases e)
      refine d1 6 h138 rfl rfl (op_call (args := #[pt N14 0]) (R := fun res xw => res = .int .u64 hz'94 ∧ w129 = xw) rfl rfl rfl (by kernel_rfl) (by kernel_rfl) (Try.call9 _ _) (stHorizon w129 hO141) (by rintro e x ⟨rfl, rfl⟩; exact ⟨_, rfl, rfl, rfl⟩)) ?_ ?_; clear h138
      ·
       rintro _ _ ⟨rfl, rfl⟩
       exact hB133
      rintro _ _ a139 ⟨rfl, rfl⟩ h139
      refine dk0 8 (v := .bool (decide (hz'94 < zA))) h139 rfl rfl hB133 fun a142 h142 => ?_; clear h139
      refine dk0 9 (v := .bool (decide (hz'94 < zA))) h142 rfl rfl hB133 fun a143 h143 => ?_; clear h142
      refine dk0 10 (v := .bool (decide (hz'94 < zA))) h143 rfl rfl hB133 fun a144 h144 => ?_; clear h143
      have hc145 : (decide (hz'94 < zA)) = false := decide_eq_false (by omega)
      rw [hc145] at h144; clear hc145
      refine dk0 11 (v := pt N14 0) h144 rfl rfl hB133 fun a146 h146 => ?_; clear h144
      refine dk0 14 (v := .int .i64 eA) h146 rfl rfl hB133 fun a147 h147 => ?_; clear h146
      refine d1 12 h147 rfl rfl (op_call (args := #[pt N14 0]) (R := fun res xw => ∃ (u : Value) (fl : Int), res = .agg #[.int .i64 ep'93, u, .int .u64 fl] ∧ Below w129.heap.size w129 xw) rfl rfl rfl (by kernel_rfl) (by kernel_rfl) (Try.call10 _ _) (stConf w129 hO141) (by rintro e x ⟨u, fl, h0, h⟩; exact ⟨_, h0, u, fl, rfl, h⟩)) ?_ ?_; clear h147
      ·
       rintro _ w149 ⟨u150, fl151, rfl, hb152⟩
       have hz153 := hb152.size
       have ho154 := StO.ofS hO141
       have hB155 := hb_call hB133 hb152
       exact hB155
      rintro _ w149 a148 ⟨u150, fl151, rfl, hb152⟩ h148
      have hz153 := hb152.size
      have ho154 := StO.ofS hO141
      have hB155 := hb_call hB133 hb152
      refine dk0 13 (v := .int .i64 ep'93) h148 rfl rfl hB155 fun a156 h156 => ?_; clear h148
      refine dk0 15 (v := .bool (decide (ep'93 < eA))) h156 rfl rfl hB155 fun a157 h157 => ?_; clear h156
      refine dk0 16 (v := .bool (decide (ep'93 < eA))) h157 rfl rfl hB155 fun a158 h158 => ?_; clear h157
      refine dk0 17 (v := .bool (decide (ep'93 < eA))) h158 rfl rfl hB155 fun a159 h159 => ?_; clear h158
      have hc160 : (decide (ep'93 < eA)) = false := decide_eq_false (by omega)
      rw [hc160] at h159; clear hc160
      refine dk0 18 (v := .int .i64 r91) h159 rfl rfl hB155 fun a161 h161 => ?_; clear h159
      refine dk0 19 (v := .bool (r91 == 0)) h161 rfl rfl hB155 fun a162 h162 => ?_; clear h161
      refine dk0 20 (v := .bool (r91 == 0)) h162 rfl rfl hB155 fun a163 h163 => ?_; clear h162
      have hr165 := row_kept_new hq121 (below_grown hb130)
      have hr166 := row_kept_new hr165 (below_grown hb152)
      cases hc164 : (r91 == 0)
      ·
       rw [hc164] at h163
       have hp167 : ¬ (r91 = 0) := by first | simpa using hc164 | simpa [and_assoc] using hc164
       clear hc164
       refine dsk 21 h163 rfl rfl hB155 fun a168 h168 => ?_; clear h163
       refine dsk 22 h168 rfl rfl hB155 fun a169 h169 => ?_; clear h168
       refine dsk 23 h169 rfl rfl hB155 fun a170 h170 => ?_; clear h169
       refine dsk 24 h170 rfl rfl hB155 fun a171 h171 => ?_; clear h170
       refine dsk 25 h171 rfl rfl hB155 fun a172 h172 => ?_; clear h171
       refine dsk 26 h172 rfl rfl hB155 fun a173 h173 => ?_; clear h172
       refine dk0 27 (v := .bool false) h173 rfl rfl hB155 fun a174 h174 => ?_; clear h173
       refine dk0 28 (v := .bool false) h174 rfl rfl hB155 fun a175 h175 => ?_; clear h174
       refine dsk 29 h175 rfl rfl hB155 fun a176 h176 => ?_; clear h175
       refine dsk 30 h176 rfl rfl hB155 fun a177 h177 => ?_; clear h176
       refine dsk 31 h177 rfl rfl hB155 fun a178 h178 => ?_; clear h177
       refine dsk 32 h178 rfl rfl hB155 fun a179 h179 => ?_; clear h178
       refine dsk 33 h179 rfl rfl hB155 fun a180 h180 => ?_; clear h179
       refine dsk 34 h180 rfl rfl hB155 fun a181 h181 => ?_; clear h180
       refine dsk 35 h181 rfl rfl hB155 fun a182 h182 => ?_; clear h181
       refine dsk 36 h182 rfl rfl hB155 fun a183 h183 => ?_; clear h182
       refine dsk 37 h183 rfl rfl hB155 fun a184 h184 => ?_; clear h183
       refine dsk 38 h184 rfl rfl hB155 fun a185 h185 => ?_; clear h184
       refine dk0 39 (v := .bool false) h185 rfl rfl hB155 fun a186 h186 => ?_; clear h185
       refine dk0 40 (v := .bool false) h186 rfl rfl hB155 fun a187 h187 => ?_; clear h186
       refine dr_done (by kernel_rfl) ?_
       refine co_then ?_
       refine co_false h187 rfl ?_
       refine wp_skip ?_
       refine co_blockN ?_
       refine co_then ?_
       refine co_reg ?_
       refine pk0 (v := .int .i64 ((i : Nat) : Int)) h187 rfl fun a188 h188 => ?_; clear h187
       refine pk (v := .int .i64 ((i + 1 : Nat) : Int)) h188 rfl (rn_arith' rfl rfl rfl rfl rfl rfl (IntWalk.i64_in _ (by omega)) (by omega)) fun a189 h189 => ?_; clear h188
       refine pk0 (v := .int .i64 ((i + 1 : Nat) : Int)) h189 rfl fun a190 h190 => ?_; clear h189
       refine pl_nil ?_
       refine co_then ?_
       refine ⟨(l.length - (i + 1)), by omega, ?_⟩
       have hlo9 := hlo125
       have hO191 := StO.gr hO141 (below_grown hb152) (fun k e => by cases e)
       exact ⟨i + 1, S118, L'92, ep'93, hz'94, h190.sub ⟨rfl, rfl, rfl, trivial⟩, rfl, by omega, by omega, by exact hlo9, hO191, hB155⟩
      ·
       rw [hc164] at h163
       have hp192 : r91 = 0 := by first | simpa using hc164 | simpa [and_assoc] using hc164
       clear hc164
       refine dk0 21 (v := v) h163 rfl rfl hB155 fun a193 h193 => ?_; clear h163
       refine dk0 22 (v := .int .i64 ((i : Nat) : Int)) h193 rfl rfl hB155 fun a194 h194 => ?_; clear h193
       refine dk 23 (v := pt (blkOf v) (offOf v + i * 18)) h194 rfl rfl hB155 (fun x hx => (rn_index rfl rfl rfl Try.underlying22 Try.sizeOf46 (hs.below hx) (by omega) (by first | omega | (simp; done) | (simp; omega)))) fun a195 h195 => ?_; clear h194
       refine dk0 24 (v := pt (blkOf v) (offOf v + i * 18)) h195 rfl rfl hB155 fun a196 h196 => ?_; clear h195
       refine dk 25 (v := .int .i64 y83.d.k) h196 rfl rfl hB155 (fun x hx => (rn_load1 rfl rfl Try.isAgg3 ((sl_at (hs.below hx) hy83) 0 _ rfl))) fun a197 h197 => ?_; clear h196
       refine dk0 26 (v := .bool (y83.d.k == 1)) h197 rfl rfl hB155 fun a198 h198 => ?_; clear h197
       refine dk0 27 (v := .bool (y83.d.k == 1)) h198 rfl rfl hB155 fun a199 h199 => ?_; clear h198
       refine dk0 28 (v := .bool (y83.d.k == 1)) h199 rfl rfl hB155 fun a200 h200 => ?_; clear h199
       cases hc201 : (y83.d.k == 1)
       ·
        rw [hc201] at h200
        have hp202 : ¬ (y83.d.k = 1) := by first | simpa using hc201 | simpa [and_assoc] using hc201
        clear hc201
        refine dsk 29 h200 rfl rfl hB155 fun a203 h203 => ?_; clear h200
        refine dsk 30 h203 rfl rfl hB155 fun a204 h204 => ?_; clear h203
        refine dsk 31 h204 rfl rfl hB155 fun a205 h205 => ?_; clear h204
        refine dsk 32 h205 rfl rfl hB155 fun a206 h206 => ?_; clear h205
        refine dsk 33 h206 rfl rfl hB155 fun a207 h207 => ?_; clear h206
        refine dsk 34 h207 rfl rfl hB155 fun a208 h208 => ?_; clear h207
        refine dsk 35 h208 rfl rfl hB155 fun a209 h209 => ?_; clear h208
        refine dsk 36 h209 rfl rfl hB155 fun a210 h210 => ?_; clear h209
        refine dsk 37 h210 rfl rfl hB155 fun a211 h211 => ?_; clear h210
        refine dsk 38 h211 rfl rfl hB155 fun a212 h212 => ?_; clear h211
        refine dk0 39 (v := .bool false) h212 rfl rfl hB155 fun a213 h213 => ?_; clear h212
        refine dk0 40 (v := .bool false) h213 rfl rfl hB155 fun a214 h214 => ?_; clear h213
        refine dr_done (by kernel_rfl) ?_
        refine co_then ?_
        refine co_false h214 rfl ?_
        refine wp_skip ?_
        refine co_blockN ?_
        refine co_then ?_
        refine co_reg ?_
        refine pk0 (v := .int .i64 ((i : Nat) : Int)) h214 rfl fun a215 h215 => ?_; clear h214
        refine pk (v := .int .i64 ((i + 1 : Nat) : Int)) h215 rfl (rn_arith' rfl rfl rfl rfl rfl rfl (IntWalk.i64_in _ (by omega)) (by omega)) fun a216 h216 => ?_; clear h215
        refine pk0 (v := .int .i64 ((i + 1 : Nat) : Int)) h216 rfl fun a217 h217 => ?_; clear h216
        refine pl_nil ?_
        refine co_then ?_
        refine ⟨(l.length - (i + 1)), by omega, ?_⟩
        have hlo9 := hlo125
        have hO218 := StO.gr hO141 (below_grown hb152) (fun k e => by cases e)
        exact ⟨i + 1, S118, L'92, ep'93, hz'94, h217.sub ⟨rfl, rfl, rfl, trivial⟩, rfl, by omega, by omega, by exact hlo9, hO218, hB155⟩
       ·
        rw [hc201] at h200
        have hp219 : y83.d.k = 1 := by first | simpa using hc201 | simpa [and_assoc] using hc201
        clear hc201
        refine dk0 29 (v := pt N14 0) h200 rfl rfl hB155 fun a220 h220 => ?_; clear h200
        refine dk0 32 (v := v) h220 rfl rfl hB155 fun a221 h221 => ?_; clear h220
        refine dk0 33 (v := .int .i64 ((i : Nat) : Int)) h221 rfl rfl hB155 fun a222 h222 => ?_; clear h221
        refine dk 34 (v := pt (blkOf v) (offOf v + i * 18)) h222 rfl rfl hB155 (fun x hx => (rn_index rfl rfl rfl Try.underlying22 Try.sizeOf46 (hs.below hx) (by omega) (by first | omega | (simp; done) | (simp; omega)))) fun a223 h223 => ?_; clear h222
        refine dk0 35 (v := pt (blkOf v) (offOf v + i * 18 + 3)) h223 rfl rfl hB155 fun a224 h224 => ?_; clear h223
        refine dk0 36 (v := pt (blkOf v) (offOf v + i * 18 + 3)) h224 rfl rfl hB155 fun a225 h225 => ?_; clear h224
        refine dk 37 (v := .int .i64 y83.d.ep) h225 rfl rfl hB155 (fun x hx => (rn_load1 rfl rfl Try.isAgg3 ((sl_at (hs.below hx) hy83) 3 _ rfl))) fun a226 h226 => ?_; clear h225
        have hO232 := StO.gr hO141 (below_grown hb152) (fun k e => by cases e)
        refine d1 30 h226 rfl rfl (op_call (args := #[pt N14 0]) (R := fun res xw => ∃ (u : Value) (fl : Int), res = .agg #[.int .i64 ep'93, u, .int .u64 fl] ∧ Below w149.heap.size w149 xw) rfl rfl rfl (by kernel_rfl) (by kernel_rfl) (Try.call10 _ _) (stConf w149 hO232) (by rintro e x ⟨u, fl, h0, h⟩; exact ⟨_, h0, u, fl, rfl, h⟩)) ?_ ?_; clear h226
        ·
         rintro _ w228 ⟨u229, fl230, rfl, hb231⟩
         have hz233 := hb231.size
         have ho234 := StO.ofS hO232
         have hB235 := hb_call hB155 hb231
         exact hB235
        rintro _ w228 a227 ⟨u229, fl230, rfl, hb231⟩ h227
        have hz233 := hb231.size
        have ho234 := StO.ofS hO232
        have hB235 := hb_call hB155 hb231
        refine dk0 31 (v := .int .i64 ep'93) h227 rfl rfl hB235 fun a236 h236 => ?_; clear h227
        refine dk0 38 (v := .bool (ep'93 != y83.d.ep)) h236 rfl rfl hB235 fun a237 h237 => ?_; clear h236
        refine dk0 39 (v := .bool (ep'93 != y83.d.ep)) h237 rfl rfl hB235 fun a238 h238 => ?_; clear h237
        refine dk0 40 (v := .bool (ep'93 != y83.d.ep)) h238 rfl rfl hB235 fun a239 h239 => ?_; clear h238
        refine dr_done (by kernel_rfl) ?_
        refine co_then ?_
        have hc240 : (ep'93 != y83.d.ep) = false := by first | (simp; done) | (simp; omega) | exact beq_false_of_ne (by omega) | exact beq_iff_eq.2 (by omega)
        rw [hc240] at h239; clear hc240
        refine co_false h239 rfl ?_
        refine wp_skip ?_
        refine co_blockN ?_
        refine co_then ?_
        refine co_reg ?_
        refine pk0 (v := .int .i64 ((i : Nat) : Int)) h239 rfl fun a241 h241 => ?_; clear h239
        refine pk (v := .int .i64 ((i + 1 : Nat) : Int)) h241 rfl (rn_arith' rfl rfl rfl rfl rfl rfl (IntWalk.i64_in _ (by omega)) (by omega)) fun a242 h242 => ?_; clear h241
        refine pk0 (v := .int .i64 ((i + 1 : Nat) : Int)) h242 rfl fun a243 h243 => ?_; clear h242
        refine pl_nil ?_
        refine co_then ?_
        refine ⟨(l.length - (i + 1)), by omega, ?_⟩
        have hlo9 := hlo125
        have hO244 := StO.gr hO232 (below_grown hb231) (fun k e => by cases e)
        exact ⟨i + 1, S118, L'92, ep'93, hz'94, h243.sub ⟨rfl, rfl, rfl, trivial⟩, rfl, by omega, by omega, by exact hlo9, hO244, hB235⟩
 ·
  rw [hc9] at h8
  have hp245 : r5 > 20 := of_decide_eq_true hc9
  clear hc9
  refine co_true h8 rfl ?_
  refine co_seq ?_
  refine co_reg ?_
  refine pw h8 rfl (op_call (args := #[]) (R := fun res xw => res = .bool true ∧ Below w4.heap.size w4 xw) rfl rfl rfl (by kernel_rfl) (by kernel_rfl) (Try.call7 _ _) (awake30 w4) (by rintro e x ⟨rfl, h⟩; exact ⟨_, rfl, rfl, h⟩)) ?_; clear h8
  rintro _ w247 a246 ⟨rfl, hb248⟩ h246
  have hz249 := hb248.size
  refine pk0 (v := .bool true) h246 rfl fun a250 h250 => ?_; clear h246
  refine pl_nil ?_
  refine co_then ?_
  refine wp_ret ?_
  refine co_thenR ?_
  refine co_ret1 h250 rfl rfl ?_
  have hB251 := hb_call hB10 hb248
  exact ⟨rfl, hB251⟩
end Go.Proofs.Ytkjnhghniopnoaa
