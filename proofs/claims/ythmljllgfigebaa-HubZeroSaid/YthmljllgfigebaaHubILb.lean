/- Package hub: both hubs as objects; catenalaw23: awake. Conditions: none. -/
import Derived.Test.YthmljllgfigebaaHubGLb
import Derived.Test.YthmljllgfigebaaHubHLb
namespace Go.Proofs.Ythmljllgfigebaa
open Go.RowKit Go.PlainAid
set_option linter.unusedVariables false


section
variable {S S' D : Nat → Prop} {w x : World} {b : Nat} {M : Nat → Option LnT}
theorem HbP.ofS (h : HbP S w b M) : ∀ q, S q → q < w.heap.size := HbX.ofS h
theorem HbP.gr {row : Option Nat} (h : HbP S w b M) (hg : w.grownBy x row) (hr : ∀ k, row = some k → ¬ S k) : HbP S x b M := HbX.gr h hg hr
theorem HbP.but (h : HbP S w b M) (hb : But D w x) (ha : ∀ q, S q → D q → False) : HbP S x b M := HbX.but h hb ha
theorem HbR.ofS (h : HbR S w b M) : ∀ q, S q → q < w.heap.size := HbX.ofS h
theorem HbR.gr {row : Option Nat} (h : HbR S w b M) (hg : w.grownBy x row) (hr : ∀ k, row = some k → ¬ S k) : HbR S x b M := HbX.gr h hg hr
theorem HbR.but (h : HbR S w b M) (hb : But D w x) (ha : ∀ q, S q → D q → False) : HbR S x b M := HbX.but h hb ha
theorem pHOut (w : World) (g : Bool) (h : HbP S w b M) : Calls Try.prog 57 #[pt b 0, .bool g] w fun e w' => ∃ (v : Value) (S' : Nat → Prop), e = .returned v ∧ HbP S' w' b (outM M 4) ∧ w'.ownsRow w.heap.size 125 2 v (outH M g 4).length ((outH M g 4).flatMap outE) ∧ (∀ i, v.ownBlock = some i → ¬ S' i) ∧ Grew S S' w w' := by
  obtain ⟨q, h⟩ := h
  exact (hbOut_any S b q M g w h).mono fun e x ⟨v, S', h1, h2, h3, h4, h5, _⟩ => ⟨v, S', h1, ⟨q, h2⟩, h3, h4, h5⟩
theorem rHOut (w : World) (g : Bool) (h : HbR S w b M) : Calls Try.prog 58 #[pt b 0, .bool g] w fun e w' => ∃ (v : Value) (S' : Nat → Prop), e = .returned v ∧ HbR S' w' b (outM M 4) ∧ w'.ownsRow w.heap.size 125 2 v (outH M g 4).length ((outH M g 4).flatMap outE) ∧ (∀ i, v.ownBlock = some i → ¬ S' i) ∧ Grew S S' w w' := by
  obtain ⟨q, h⟩ := h
  exact (rhOut_any S b q M g w h).mono fun e x ⟨v, S', h1, h2, h3, h4, h5, _⟩ => ⟨v, S', h1, ⟨q, h2⟩, h3, h4, h5⟩
theorem pHNew (self boot : Int) (w : World) (hs : 0 ≤ self ∧ self < 4) (h : 1 ≤ boot ∧ boot ≤ 1073741824) : Calls Try.prog 52 #[.int .i64 self, .int .i64 boot] w fun e w' => ∃ (N : Nat) (S : Nat → Prop), e = .returned (.tuple #[pt N 0, .int .i64 0]) ∧ HbP S w' N (newM self boot 4) ∧ (∀ k, S k → w.heap.size ≤ k) ∧ Below w.heap.size w w' :=
  (hbNew_ok self boot w hs h).mono fun e x ⟨S, h1, h2, h3, h4⟩ => ⟨_, S, h1, h2, h3, h4⟩
theorem rHNew (self boot : Int) (w : World) (hs : 0 ≤ self ∧ self < 4) (h : 1 ≤ boot ∧ boot ≤ 1073741824) : Calls Try.prog 53 #[.int .i64 self, .int .i64 boot] w fun e w' => ∃ (N : Nat) (S : Nat → Prop), e = .returned (.tuple #[pt N 0, .int .i64 0]) ∧ HbR S w' N (newM self boot 4) ∧ (∀ k, S k → w.heap.size ≤ k) ∧ Below w.heap.size w w' :=
  (rhNew_ok self boot w hs h).mono fun e x ⟨S, h1, h2, h3, h4⟩ => ⟨_, S, h1, h2, h3, h4⟩
theorem pHBad (self boot : Int) (w : World) (h : ¬ ((0 ≤ self ∧ self < 4) ∧ 1 ≤ boot ∧ boot ≤ 1073741824)) : Calls Try.prog 52 #[.int .i64 self, .int .i64 boot] w fun e w' => e = .returned (.tuple #[.pointer none, .int .i64 1]) ∧ Below w.heap.size w w' := by
  by_cases hs : 0 ≤ self ∧ self < 4
  · exact hbNew_boot self boot w hs (fun hb => h ⟨hs, hb⟩)
  · exact hbNew_self self boot w hs
theorem rHBad (self boot : Int) (w : World) (h : ¬ ((0 ≤ self ∧ self < 4) ∧ 1 ≤ boot ∧ boot ≤ 1073741824)) : Calls Try.prog 53 #[.int .i64 self, .int .i64 boot] w fun e w' => e = .returned (.tuple #[.pointer none, .int .i64 1]) ∧ Below w.heap.size w w' := by
  by_cases hs : 0 ≤ self ∧ self < 4
  · exact rhNew_boot self boot w hs (fun hb => h ⟨hs, hb⟩)
  · exact rhNew_self self boot w hs
theorem rHWaiting (S : Nat → Prop) (w : World) (b : Nat) (M : Nat → Option LnT) (n : Int) (h : HbR S w b M) : Calls Try.prog 62 #[pt b 0, .int .i64 n] w fun e w' => e = .returned (.int .i64 (hWaitT M n)) ∧ Below w.heap.size w w' :=
  (rhWaiting_any S w b M n h).mono fun e x ⟨h1, h2⟩ => ⟨h1, h2 ▸ Below.refl _ _⟩
end
theorem hWaitT_i64 : (0 : Int) = 0 := rfl
def hM1 : Nat → Option LnT := (hSendT (newM 0 1 4) 2 ⟨#[120]⟩).2
theorem aw_out : outH hM1 true 4 = [(((2 : Nat) : Int), (putG (SegT.mk 1 1 0 0 0 0 true ⟨#[120]⟩)).1)] := by rfl
theorem aw_to {y : Int × ByteArray} (h : (outH (hSendT (newM 0 1 4) 2 ⟨#[120]⟩).2 true 4)[0]? = some y) : y.1 = 2 := by
  have e : outH (hSendT (newM 0 1 4) 2 ⟨#[120]⟩).2 true 4 = _ := aw_out
  rw [e] at h; simp at h; subst h; rfl
theorem aw_len : (outH (hSendT (newM 0 1 4) 2 ⟨#[120]⟩).2 true 4).length = 1 := by
  have e : outH (hSendT (newM 0 1 4) 2 ⟨#[120]⟩).2 true 4 = _ := aw_out
  rw [e]; rfl

set_option maxRecDepth 100000 in
set_option maxHeartbeats 6400000 in
theorem awake23  (w : World)  :
    Calls Try.prog 63 #[] w fun e w' => e = .returned (.bool true) ∧ Below w.heap.size w w' := by
 have hB0 := Below.refl w.heap.size w
 refine co_enter (n := 41) Try.func63 rfl rfl rfl [] rfl (fun a h0 => ?_)
 refine co_seq ?_
 refine co_reg ?_
 refine pk0 (v := .bool false) h0 rfl fun a1 h1 => ?_; clear h0
 refine pl_nil ?_
 refine co_then ?_
 refine co_seq ?_
 refine co_reg ?_
 refine pw h1 rfl (op_call (args := #[.int .i64 0, .int .i64 1]) (R := fun res xw => ∃ (N : Nat) (S : Nat → Prop), res = .tuple #[pt N 0, .int .i64 0] ∧ HbP S xw N (newM 0 1 4) ∧ (∀ q, S q → w.heap.size ≤ q) ∧ Below w.heap.size w xw) rfl rfl rfl (by kernel_rfl) (by kernel_rfl) (Try.call52 _ _) (pHNew 0 1 w (by omega) (by omega)) (by rintro e x ⟨N, S, rfl, h⟩; exact ⟨_, rfl, N, S, rfl, h⟩)) ?_; clear h1
 rintro _ w3 a2 ⟨N4, S5, rfl, hO6, hlo7, hb8⟩ h2
 have hz9 := hb8.size
 have hlo10 : ∀ q, S5 q → w.heap.size ≤ q := fun q hq => by have := hlo7 q hq; omega
 refine pk0 (v := .tuple #[pt N4 0, .int .i64 0]) h2 rfl fun a11 h11 => ?_; clear h2
 refine pk0 (v := pt N4 0) h11 rfl fun a12 h12 => ?_; clear h11
 refine pk0 (v := .int .i64 0) h12 rfl fun a13 h13 => ?_; clear h12
 refine pk0 (v := pt N4 0) h13 rfl fun a14 h14 => ?_; clear h13
 refine pk0 (v := .int .i64 0) h14 rfl fun a15 h15 => ?_; clear h14
 refine pl_nil ?_
 refine co_then ?_
 refine co_seq ?_
 refine co_reg ?_
 refine pk0 (v := pt N4 0) h15 rfl fun a16 h16 => ?_; clear h15
 have ho19 := HbP.ofS hO6
 have hB20 := hb_call hB0 hb8
 refine pw h16 rfl (op_call (args := #[pt N4 0, .int .i64 2, .string (⟨#[120]⟩)]) (R := fun res xw => ∃ S' : Nat → Prop, res = .int .i64 ((hSendT (newM 0 1 4) 2 (⟨#[120]⟩ : ByteArray)).1) ∧ HbP S' xw N4 (hSendT (newM 0 1 4) 2 (⟨#[120]⟩ : ByteArray)).2 ∧ Grew S5 S' w3 xw) rfl rfl rfl (by kernel_rfl) (by kernel_rfl) (Try.call54 _ _) (hbSend_any S5 w3 N4 (newM 0 1 4) 2 (⟨#[120]⟩ : ByteArray) hO6) (by rintro e x ⟨S', h0, h⟩; exact ⟨_, h0, S', rfl, h⟩)) ?_; clear h16
 rintro _ w18 a17 ⟨S21, rfl, hO22, hx23⟩ h17
 have hlo25 : ∀ q, S21 q → w.heap.size ≤ q := hx23.lo hlo10 (by omega)
 have hB24 := hbL hB20 hlo10 hx23.but
 have hz26 := hB24.size
 have hz27 := hx23.but.size
 refine pk0 (v := .int .i64 ((hSendT (newM 0 1 4) 2 (⟨#[120]⟩ : ByteArray)).1)) h17 rfl fun a28 h28 => ?_; clear h17
 refine pl_nil ?_
 refine co_then ?_
 refine co_seq ?_
 refine co_reg ?_
 refine pk0 (v := pt N4 0) h28 rfl fun a29 h29 => ?_; clear h28
 have ho32 := HbP.ofS hO22
 refine pw h29 rfl (op_call (args := #[pt N4 0, .bool true]) (R := fun res xw => ∃ v : Value, ∃ S' : Nat → Prop, res = v ∧ HbP S' xw N4 (outM ((hSendT (newM 0 1 4) 2 (⟨#[120]⟩ : ByteArray)).2) 4) ∧ (xw.ownsRow w18.heap.size 125 2 v (outH ((hSendT (newM 0 1 4) 2 (⟨#[120]⟩ : ByteArray)).2) true 4).length ((outH ((hSendT (newM 0 1 4) 2 (⟨#[120]⟩ : ByteArray)).2) true 4).flatMap outE)) ∧ (∀ i, v.ownBlock = some i → ¬ S' i) ∧ Grew S21 S' w18 xw) rfl rfl rfl (by kernel_rfl) (by kernel_rfl) (Try.call57 _ _) (pHOut w18 true hO22) (by rintro e x ⟨v, S', h0, h⟩; exact ⟨_, h0, v, S', rfl, h⟩)) ?_; clear h29
 rintro v33 w31 a30 ⟨_, S34, rfl, hO35, hq37, hq38, hx36⟩ h30
 have hlo40 : ∀ q, S34 q → w.heap.size ≤ q := hx36.lo hlo25 (by omega)
 have hB39 := hbL hB24 hlo25 hx36.but
 have hz41 := hB39.size
 have hz42 := hx36.but.size
 have hl43 := outH_len ((hSendT (newM 0 1 4) 2 (⟨#[120]⟩ : ByteArray)).2) true 4
 have hl44 := aw_len
 refine pk0 (v := v33) h30 rfl fun a45 h45 => ?_; clear h30
 refine pl_nil ?_
 refine co_then ?_
 refine co_seq ?_
 refine co_reg ?_
 refine pk0 (v := .int .i64 0) h45 rfl fun a46 h46 => ?_; clear h45
 refine pk0 (v := .bool ((0 : Int) == 0)) h46 rfl fun a47 h47 => ?_; clear h46
 refine pk0 (v := .bool ((0 : Int) == 0)) h47 rfl fun a48 h48 => ?_; clear h47
 have hc49 : ((0 : Int) == 0) = true := by first | (simp; done) | (simp; omega) | exact beq_false_of_ne (by omega) | exact beq_iff_eq.2 (by omega)
 rw [hc49] at h48; clear hc49
 refine pk0 (v := .int .i64 ((hSendT (newM 0 1 4) 2 (⟨#[120]⟩ : ByteArray)).1)) h48 rfl fun a50 h50 => ?_; clear h48
 refine pk0 (v := .bool ((hSendT (newM 0 1 4) 2 (⟨#[120]⟩ : ByteArray)).1 == 0)) h50 rfl fun a51 h51 => ?_; clear h50
 refine pk0 (v := .bool ((hSendT (newM 0 1 4) 2 (⟨#[120]⟩ : ByteArray)).1 == 0)) h51 rfl fun a52 h52 => ?_; clear h51
 refine pk0 (v := .bool ((hSendT (newM 0 1 4) 2 (⟨#[120]⟩ : ByteArray)).1 == 0)) h52 rfl fun a53 h53 => ?_; clear h52
 have hc54 : ((hSendT (newM 0 1 4) 2 (⟨#[120]⟩ : ByteArray)).1 == 0) = true := by first | rfl | (rw [aw_to (by assumption)]; rfl) | (simp [aw_to (by assumption)]; done)
 rw [hc54] at h53; clear hc54
 refine pk0 (v := v33) h53 rfl fun a55 h55 => ?_; clear h53
 refine pk (v := .int .i64 (((outH ((hSendT (newM 0 1 4) 2 (⟨#[120]⟩ : ByteArray)).2) true 4).length : Nat) : Int)) h55 rfl (rn_lenOwn rfl rfl Try.underlying115 hq37) fun a56 h56 => ?_; clear h55
 refine pk0 (v := .bool ((((outH ((hSendT (newM 0 1 4) 2 (⟨#[120]⟩ : ByteArray)).2) true 4).length : Nat) : Int) == 1)) h56 rfl fun a57 h57 => ?_; clear h56
 refine pk0 (v := .bool ((((outH ((hSendT (newM 0 1 4) 2 (⟨#[120]⟩ : ByteArray)).2) true 4).length : Nat) : Int) == 1)) h57 rfl fun a58 h58 => ?_; clear h57
 refine pk0 (v := .bool ((((outH ((hSendT (newM 0 1 4) 2 (⟨#[120]⟩ : ByteArray)).2) true 4).length : Nat) : Int) == 1)) h58 rfl fun a59 h59 => ?_; clear h58
 have hc60 : ((((outH ((hSendT (newM 0 1 4) 2 (⟨#[120]⟩ : ByteArray)).2) true 4).length : Nat) : Int) == 1) = true := by first | rfl | (rw [aw_to (by assumption)]; rfl) | (simp [aw_to (by assumption)]; done)
 rw [hc60] at h59; clear hc60
 refine pk0 (v := v33) h59 rfl fun a61 h61 => ?_; clear h59
 obtain ⟨y62, hy62⟩ : ∃ z, (outH ((hSendT (newM 0 1 4) 2 (⟨#[120]⟩ : ByteArray)).2) true 4)[0]? = some z := ⟨_, List.getElem?_eq_getElem (by first | omega | (simp; done) | (simp; omega))⟩
 refine pk (v := pt (blkOf v33) (offOf v33 + 0 * 2)) h61 rfl (rn_index rfl rfl rfl Try.underlying115 Try.sizeOf125 (row_sl hq37 outE_len) (by omega) (by first | omega | (simp; done) | (simp; omega))) fun a63 h63 => ?_; clear h61
 refine pk0 (v := pt (blkOf v33) (offOf v33 + 0 * 2)) h63 rfl fun a64 h64 => ?_; clear h63
 refine pk (v := .int .i64 y62.1) h64 rfl (rn_load1 rfl rfl Try.isAgg3 ((sl_at (row_sl hq37 outE_len) hy62) 0 _ rfl)) fun a65 h65 => ?_; clear h64
 refine pk0 (v := .bool (y62.1 == 2)) h65 rfl fun a66 h66 => ?_; clear h65
 refine pk0 (v := .bool (y62.1 == 2)) h66 rfl fun a67 h67 => ?_; clear h66
 refine pk0 (v := .bool (y62.1 == 2)) h67 rfl fun a68 h68 => ?_; clear h67
 have hc69 : (y62.1 == 2) = true := by first | rfl | (rw [aw_to (by assumption)]; rfl) | (simp [aw_to (by assumption)]; done)
 rw [hc69] at h68; clear hc69
 refine pk0 (v := pt N4 0) h68 rfl fun a70 h70 => ?_; clear h68
 refine pw h70 rfl (op_call (args := #[pt N4 0, .int .i64 2]) (R := fun res xw => res = .int .i64 (hWaitT (outM ((hSendT (newM 0 1 4) 2 (⟨#[120]⟩ : ByteArray)).2) 4) 2) ∧ Below w31.heap.size w31 xw) rfl rfl rfl (by kernel_rfl) (by kernel_rfl) (Try.call61 _ _) (hbWaiting_any S34 w31 N4 (outM ((hSendT (newM 0 1 4) 2 (⟨#[120]⟩ : ByteArray)).2) 4) 2 hO35) (by rintro e x ⟨rfl, h⟩; exact ⟨_, rfl, rfl, h⟩)) ?_; clear h70
 rintro _ w72 a71 ⟨rfl, hb73⟩ h71
 have hz74 := hb73.size
 have ho75 := HbP.ofS hO35
 refine pk0 (v := .bool ((hWaitT (outM ((hSendT (newM 0 1 4) 2 (⟨#[120]⟩ : ByteArray)).2) 4) 2) == 1)) h71 rfl fun a76 h76 => ?_; clear h71
 refine pk0 (v := .bool ((hWaitT (outM ((hSendT (newM 0 1 4) 2 (⟨#[120]⟩ : ByteArray)).2) 4) 2) == 1)) h76 rfl fun a77 h77 => ?_; clear h76
 refine pk0 (v := .bool ((hWaitT (outM ((hSendT (newM 0 1 4) 2 (⟨#[120]⟩ : ByteArray)).2) 4) 2) == 1)) h77 rfl fun a78 h78 => ?_; clear h77
 have hc79 : ((hWaitT (outM ((hSendT (newM 0 1 4) 2 (⟨#[120]⟩ : ByteArray)).2) 4) 2) == 1) = true := by first | rfl | (rw [aw_to (by assumption)]; rfl) | (simp [aw_to (by assumption)]; done)
 rw [hc79] at h78; clear hc79
 refine pk0 (v := pt N4 0) h78 rfl fun a80 h80 => ?_; clear h78
 have hO84 := HbP.gr hO35 (below_grown hb73) (fun k e => by cases e)
 have ho83 := HbP.ofS hO84
 have hB85 := hb_call hB39 hb73
 refine pw h80 rfl (op_call (args := #[pt N4 0, .int .i64 0, .string (⟨#[120]⟩)]) (R := fun res xw => ∃ S' : Nat → Prop, res = .int .i64 ((hSendT (outM ((hSendT (newM 0 1 4) 2 (⟨#[120]⟩ : ByteArray)).2) 4) 0 (⟨#[120]⟩ : ByteArray)).1) ∧ HbP S' xw N4 (hSendT (outM ((hSendT (newM 0 1 4) 2 (⟨#[120]⟩ : ByteArray)).2) 4) 0 (⟨#[120]⟩ : ByteArray)).2 ∧ Grew S34 S' w72 xw) rfl rfl rfl (by kernel_rfl) (by kernel_rfl) (Try.call54 _ _) (hbSend_any S34 w72 N4 (outM ((hSendT (newM 0 1 4) 2 (⟨#[120]⟩ : ByteArray)).2) 4) 0 (⟨#[120]⟩ : ByteArray) hO84) (by rintro e x ⟨S', h0, h⟩; exact ⟨_, h0, S', rfl, h⟩)) ?_; clear h80
 rintro _ w82 a81 ⟨S86, rfl, hO87, hx88⟩ h81
 have hr89 := row_kept_new hq37 (below_grown hb73)
 have hlo91 : ∀ q, S86 q → w.heap.size ≤ q := hx88.lo hlo40 (by omega)
 have hB90 := hbL hB85 hlo40 hx88.but
 have hz92 := hB90.size
 have hz93 := hx88.but.size
 refine pk0 (v := .bool ((hSendT (outM ((hSendT (newM 0 1 4) 2 (⟨#[120]⟩ : ByteArray)).2) 4) 0 (⟨#[120]⟩ : ByteArray)).1 == 1)) h81 rfl fun a94 h94 => ?_; clear h81
 refine pk0 (v := .bool ((hSendT (outM ((hSendT (newM 0 1 4) 2 (⟨#[120]⟩ : ByteArray)).2) 4) 0 (⟨#[120]⟩ : ByteArray)).1 == 1)) h94 rfl fun a95 h95 => ?_; clear h94
 refine pk0 (v := .bool ((hSendT (outM ((hSendT (newM 0 1 4) 2 (⟨#[120]⟩ : ByteArray)).2) 4) 0 (⟨#[120]⟩ : ByteArray)).1 == 1)) h95 rfl fun a96 h96 => ?_; clear h95
 refine pl_nil ?_
 refine co_then ?_
 refine wp_ret ?_
 refine co_ret1 h96 rfl rfl ?_
 exact ⟨by rw [show ((hSendT (outM ((hSendT (newM 0 1 4) 2 (⟨#[120]⟩ : ByteArray)).2) 4) 0 (⟨#[120]⟩ : ByteArray)).1 == 1) = true from by first | rfl | (rw [aw_to (by assumption)]; rfl) | (simp [aw_to (by assumption)]; done)], hB90⟩
end Go.Proofs.Ythmljllgfigebaa
