/- catenalaw25: LeasePlays. Conditions: none. -/
import Derived.Test.YtfhiciaakgcbnaaLeaE
import Derived.Test.YtfhiciaakgcbnaaSameInts
namespace Go.Proofs.Ytfhiciaakgcbnaa
open Go.RowKit Go.PlainAid
set_option linter.unusedVariables false

set_option maxRecDepth 100000 in
theorem awake25  (w : World)  :
    Calls Try.prog 35 #[] w fun e w' => e = .returned (.bool true) ∧ Below w.heap.size w w' := by
  have hB0 := Below.refl w.heap.size w
  refine co_enter (n := 45) Try.func35 rfl rfl rfl [] rfl (fun a h0 => ?_)
  refine co_seq ?_
  refine co_reg ?_
  refine pl_val (v := .bool false) h0 rfl rfl rfl (by kernel_rfl) (by kernel_rfl) (by kernel_rfl) (fun a1 h1 => ?_); clear h0
  refine pl_nil ?_
  refine co_then ?_
  refine co_seq ?_
  refine co_reg ?_
  refine pl_want h1 rfl rfl rfl (op_call (args := #[.slice none 0 0, .int .i64 1, .int .u64 5]) (R := fun res xw => ∃ u : Value, res = .tuple #[u, .int .i64 0] ∧ xw.ownsRow w.heap.size 46 3 u ([(1, 5, 8)] : List PinT).length (([(1, 5, 8)] : List PinT).flatMap pinE) ∧ Below w.heap.size w xw) rfl rfl rfl (by kernel_rfl) (by kernel_rfl) (Try.call36 _ _) (leaseGrant_any (.slice none 0 0) ([]) 1 5 ([(1, 5, 8)] : List PinT) 0 w (sl_nil _) (by decide) (by decide)) (by rintro e x ⟨u, rfl, hq5, hb6⟩; exact ⟨_, rfl, ⟨u, rfl, hq5, hb6⟩⟩)) ?_; clear h1
  rintro _ w3 a2 ⟨u4, rfl, hq5, hb6⟩ h2
  have hB7 := hb_call hB0 hb6
  have hz8 := hB7.size
  have hz9 := hb6.size
  refine pl_val (v := .tuple #[u4, .int .i64 0]) h2 rfl rfl rfl (by kernel_rfl) (by kernel_rfl) (by kernel_rfl) (fun a10 h10 => ?_); clear h2
  refine pl_val (v := u4) h10 rfl rfl rfl (by kernel_rfl) (by kernel_rfl) (by kernel_rfl) (fun a11 h11 => ?_); clear h10
  refine pl_val (v := .int .i64 0) h11 rfl rfl rfl (by kernel_rfl) (by kernel_rfl) (by kernel_rfl) (fun a12 h12 => ?_); clear h11
  refine pl_val (v := u4) h12 rfl rfl rfl (by kernel_rfl) (by kernel_rfl) (by kernel_rfl) (fun a13 h13 => ?_); clear h12
  refine pl_val (v := .int .i64 0) h13 rfl rfl rfl (by kernel_rfl) (by kernel_rfl) (by kernel_rfl) (fun a14 h14 => ?_); clear h13
  refine pl_nil ?_
  refine co_then ?_
  refine co_seq ?_
  refine co_reg ?_
  refine pl_val (v := u4) h14 rfl rfl rfl (by kernel_rfl) (by kernel_rfl) (by kernel_rfl) (fun a15 h15 => ?_); clear h14
  refine pl_want h15 rfl rfl rfl (op_call (args := #[u4, .int .i64 2, .int .u64 3]) (R := fun res xw => ∃ u : Value, res = .tuple #[u, .int .i64 0] ∧ xw.ownsRow w3.heap.size 46 3 u ([(1, 5, 8), (2, 3, 8)] : List PinT).length (([(1, 5, 8), (2, 3, 8)] : List PinT).flatMap pinE) ∧ Below w3.heap.size w3 xw) rfl rfl rfl (by kernel_rfl) (by kernel_rfl) (Try.call36 _ _) (leaseGrant_any u4 ([(1, 5, 8)] : List PinT) 2 3 ([(1, 5, 8), (2, 3, 8)] : List PinT) 0 w3 (row_sl hq5 pinE_len) (by decide) (by decide)) (by rintro e x ⟨u, rfl, hq19, hb20⟩; exact ⟨_, rfl, ⟨u, rfl, hq19, hb20⟩⟩)) ?_; clear h15
  rintro _ w17 a16 ⟨u18, rfl, hq19, hb20⟩ h16
  have hB21 := hb_call hB7 hb20
  have hz22 := hB21.size
  have hz23 := hb20.size
  have hr24 := row_kept_new hq5 (below_grown hb20)
  refine pl_val (v := .tuple #[u18, .int .i64 0]) h16 rfl rfl rfl (by kernel_rfl) (by kernel_rfl) (by kernel_rfl) (fun a25 h25 => ?_); clear h16
  refine pl_val (v := u18) h25 rfl rfl rfl (by kernel_rfl) (by kernel_rfl) (by kernel_rfl) (fun a26 h26 => ?_); clear h25
  refine pl_val (v := .int .i64 0) h26 rfl rfl rfl (by kernel_rfl) (by kernel_rfl) (by kernel_rfl) (fun a27 h27 => ?_); clear h26
  refine pl_val (v := u18) h27 rfl rfl rfl (by kernel_rfl) (by kernel_rfl) (by kernel_rfl) (fun a28 h28 => ?_); clear h27
  refine pl_val (v := .int .i64 0) h28 rfl rfl rfl (by kernel_rfl) (by kernel_rfl) (by kernel_rfl) (fun a29 h29 => ?_); clear h28
  refine pl_nil ?_
  refine co_then ?_
  refine co_seq ?_
  refine co_reg ?_
  refine pl_val (v := u18) h29 rfl rfl rfl (by kernel_rfl) (by kernel_rfl) (by kernel_rfl) (fun a30 h30 => ?_); clear h29
  refine pl_want h30 rfl rfl rfl (op_call (args := #[u18]) (R := fun res xw => res = .tuple #[.int .u64 (minP ([(1, 5, 8), (2, 3, 8)] : List PinT)), .bool (decide (0 < (([(1, 5, 8), (2, 3, 8)] : List PinT).length : Int)))] ∧ Below w17.heap.size w17 xw) rfl rfl rfl (by kernel_rfl) (by kernel_rfl) (Try.call44 _ _) (leaseMin_any u18 ([(1, 5, 8), (2, 3, 8)] : List PinT) w17 (row_sl hq19 pinE_len) (by intro z hz; simp at hz; rcases hz with rfl | rfl <;> exact ⟨rfl, rfl, rfl⟩)) (by rintro e x ⟨rfl, hb33⟩; exact ⟨_, rfl, ⟨rfl, hb33⟩⟩)) ?_; clear h30
  rintro _ w32 a31 ⟨rfl, hb33⟩ h31
  have hB34 := hb_call hB21 hb33
  have hz35 := hB34.size
  have hz36 := hb33.size
  have hr37 := row_kept_new hr24 (below_grown hb33)
  have hr38 := row_kept_new hq19 (below_grown hb33)
  refine pl_val (v := .tuple #[.int .u64 (minP ([(1, 5, 8), (2, 3, 8)] : List PinT)), .bool (decide (0 < (([(1, 5, 8), (2, 3, 8)] : List PinT).length : Int)))]) h31 rfl rfl rfl (by kernel_rfl) (by kernel_rfl) (by kernel_rfl) (fun a39 h39 => ?_); clear h31
  refine pl_val (v := .int .u64 (minP ([(1, 5, 8), (2, 3, 8)] : List PinT))) h39 rfl rfl rfl (by kernel_rfl) (by kernel_rfl) (by kernel_rfl) (fun a40 h40 => ?_); clear h39
  refine pl_val (v := .bool (decide (0 < (([(1, 5, 8), (2, 3, 8)] : List PinT).length : Int)))) h40 rfl rfl rfl (by kernel_rfl) (by kernel_rfl) (by kernel_rfl) (fun a41 h41 => ?_); clear h40
  refine pl_val (v := .int .u64 (minP ([(1, 5, 8), (2, 3, 8)] : List PinT))) h41 rfl rfl rfl (by kernel_rfl) (by kernel_rfl) (by kernel_rfl) (fun a42 h42 => ?_); clear h41
  refine pl_val (v := .bool (decide (0 < (([(1, 5, 8), (2, 3, 8)] : List PinT).length : Int)))) h42 rfl rfl rfl (by kernel_rfl) (by kernel_rfl) (by kernel_rfl) (fun a43 h43 => ?_); clear h42
  refine pl_nil ?_
  refine co_then ?_
  refine co_seq ?_
  refine co_reg ?_
  refine pl_val (v := .int .i64 0) h43 rfl rfl rfl (by kernel_rfl) (by kernel_rfl) (by kernel_rfl) (fun a44 h44 => ?_); clear h43
  refine pl_val (v := .bool ((0 : Int) == 0)) h44 rfl rfl rfl (by kernel_rfl) (by kernel_rfl) (by kernel_rfl) (fun a45 h45 => ?_); clear h44
  refine pl_val (v := .bool ((0 : Int) == 0)) h45 rfl rfl rfl (by kernel_rfl) (by kernel_rfl) (by kernel_rfl) (fun a46 h46 => ?_); clear h45
  have hc47 : ((0 : Int) == 0) = true := by first | decide | rfl | (simp_all; done)
  rw [hc47] at h46; clear hc47
  refine pl_val (v := .int .i64 0) h46 rfl rfl rfl (by kernel_rfl) (by kernel_rfl) (by kernel_rfl) (fun a48 h48 => ?_); clear h46
  refine pl_val (v := .bool ((0 : Int) == 0)) h48 rfl rfl rfl (by kernel_rfl) (by kernel_rfl) (by kernel_rfl) (fun a49 h49 => ?_); clear h48
  refine pl_val (v := .bool ((0 : Int) == 0)) h49 rfl rfl rfl (by kernel_rfl) (by kernel_rfl) (by kernel_rfl) (fun a50 h50 => ?_); clear h49
  refine pl_val (v := .bool ((0 : Int) == 0)) h50 rfl rfl rfl (by kernel_rfl) (by kernel_rfl) (by kernel_rfl) (fun a51 h51 => ?_); clear h50
  have hc52 : ((0 : Int) == 0) = true := by first | decide | rfl | (simp_all; done)
  rw [hc52] at h51; clear hc52
  refine pl_val (v := u18) h51 rfl rfl rfl (by kernel_rfl) (by kernel_rfl) (by kernel_rfl) (fun a53 h53 => ?_); clear h51
  refine pl_val (v := .int .i64 ((([(1, 5, 8), (2, 3, 8)] : List PinT).length : Nat) : Int)) h53 rfl rfl rfl (by kernel_rfl) (by kernel_rfl) (rn_lenOwn rfl rfl Try.underlying77 hr38) (fun a54 h54 => ?_); clear h53
  refine pl_val (v := .bool (((([(1, 5, 8), (2, 3, 8)] : List PinT).length : Nat) : Int) == 2)) h54 rfl rfl rfl (by kernel_rfl) (by kernel_rfl) (by kernel_rfl) (fun a55 h55 => ?_); clear h54
  refine pl_val (v := .bool (((([(1, 5, 8), (2, 3, 8)] : List PinT).length : Nat) : Int) == 2)) h55 rfl rfl rfl (by kernel_rfl) (by kernel_rfl) (by kernel_rfl) (fun a56 h56 => ?_); clear h55
  refine pl_val (v := .bool (((([(1, 5, 8), (2, 3, 8)] : List PinT).length : Nat) : Int) == 2)) h56 rfl rfl rfl (by kernel_rfl) (by kernel_rfl) (by kernel_rfl) (fun a57 h57 => ?_); clear h56
  have hc58 : (((([(1, 5, 8), (2, 3, 8)] : List PinT).length : Nat) : Int) == 2) = true := by first | decide | rfl | (simp_all; done)
  rw [hc58] at h57; clear hc58
  refine pl_val (v := .int .u64 (minP ([(1, 5, 8), (2, 3, 8)] : List PinT))) h57 rfl rfl rfl (by kernel_rfl) (by kernel_rfl) (by kernel_rfl) (fun a59 h59 => ?_); clear h57
  refine pl_val (v := .bool (minP ([(1, 5, 8), (2, 3, 8)] : List PinT) == 3)) h59 rfl rfl rfl (by kernel_rfl) (by kernel_rfl) (by kernel_rfl) (fun a60 h60 => ?_); clear h59
  refine pl_val (v := .bool (minP ([(1, 5, 8), (2, 3, 8)] : List PinT) == 3)) h60 rfl rfl rfl (by kernel_rfl) (by kernel_rfl) (by kernel_rfl) (fun a61 h61 => ?_); clear h60
  refine pl_val (v := .bool (minP ([(1, 5, 8), (2, 3, 8)] : List PinT) == 3)) h61 rfl rfl rfl (by kernel_rfl) (by kernel_rfl) (by kernel_rfl) (fun a62 h62 => ?_); clear h61
  have hc63 : (minP ([(1, 5, 8), (2, 3, 8)] : List PinT) == 3) = true := by first | decide | rfl | (simp_all; done)
  rw [hc63] at h62; clear hc63
  refine pl_val (v := .bool (decide (0 < (([(1, 5, 8), (2, 3, 8)] : List PinT).length : Int)))) h62 rfl rfl rfl (by kernel_rfl) (by kernel_rfl) (by kernel_rfl) (fun a64 h64 => ?_); clear h62
  refine pl_val (v := .bool (decide (0 < (([(1, 5, 8), (2, 3, 8)] : List PinT).length : Int)))) h64 rfl rfl rfl (by kernel_rfl) (by kernel_rfl) (by kernel_rfl) (fun a65 h65 => ?_); clear h64
  refine pl_val (v := .bool (decide (0 < (([(1, 5, 8), (2, 3, 8)] : List PinT).length : Int)))) h65 rfl rfl rfl (by kernel_rfl) (by kernel_rfl) (by kernel_rfl) (fun a66 h66 => ?_); clear h65
  have hc67 : (decide (0 < (([(1, 5, 8), (2, 3, 8)] : List PinT).length : Int))) = true := by first | decide | rfl | (simp_all; done)
  rw [hc67] at h66; clear hc67
  refine pl_val (v := u18) h66 rfl rfl rfl (by kernel_rfl) (by kernel_rfl) (by kernel_rfl) (fun a68 h68 => ?_); clear h66
  obtain ⟨y69, hy69⟩ : ∃ z, ([(1, 5, 8), (2, 3, 8)] : List PinT)[0]? = some z := ⟨_, List.getElem?_eq_getElem (by first | omega | (simp; done) | (simp; omega))⟩
  refine pl_val (v := .pointer (some ⟨(blkOf u18), offOf u18 + 0 * 3, none⟩)) h68 rfl rfl rfl (by kernel_rfl) (by kernel_rfl) (rn_index rfl rfl rfl Try.underlying77 Try.sizeOf46 (row_sl hr38 pinE_len) (by omega) (by first | omega | (simp; done) | (simp; omega))) (fun a70 h70 => ?_); clear h68
  refine pl_val (v := .pointer (some ⟨(blkOf u18), offOf u18 + 0 * 3 + 2, none⟩)) h70 rfl rfl rfl (by kernel_rfl) (by kernel_rfl) (by kernel_rfl) (fun a71 h71 => ?_); clear h70
  refine pl_val (v := .int .i64 y69.2.2) h71 rfl rfl rfl (by kernel_rfl) (by kernel_rfl) (rn_load1 rfl rfl Try.isAgg3 ((sl_at (row_sl hr38 pinE_len) hy69) 2 _ rfl)) (fun a72 h72 => ?_); clear h71
  refine pl_val (v := .bool (y69.2.2 == 8)) h72 rfl rfl rfl (by kernel_rfl) (by kernel_rfl) (by kernel_rfl) (fun a73 h73 => ?_); clear h72
  refine pl_val (v := .bool (y69.2.2 == 8)) h73 rfl rfl rfl (by kernel_rfl) (by kernel_rfl) (by kernel_rfl) (fun a74 h74 => ?_); clear h73
  refine pl_val (v := .bool (y69.2.2 == 8)) h74 rfl rfl rfl (by kernel_rfl) (by kernel_rfl) (by kernel_rfl) (fun a75 h75 => ?_); clear h74
  refine pl_nil ?_
  refine co_then ?_
  refine wp_ret ?_
  refine co_ret1 h75 rfl rfl ?_
  have hy := hy69
  simp at hy
  exact ⟨ret_bool (by rw [← hy]; rfl), hB34⟩
set_option maxRecDepth 100000 in
theorem leasePlays_any (v : Value) (l : List PinT) (id : Int) (ts : Int) (w : World) (hs : SliceOf pinE 3 w v l) (hok : ∀ z ∈ l, pinOk z) :
    Calls Try.prog 6 #[v, .int .i64 id, .int .u64 ts] w fun e w' => e = .returned (.bool true) ∧ Below w.heap.size w w' := by
  have hB0 := Below.refl w.heap.size w
  have hl_hs := sl_len hs
  refine co_enter (n := 147) Try.func6 rfl rfl rfl [(0, v), (1, .int .i64 id), (2, .int .u64 ts)] rfl (fun a h0 => ?_)
  refine co_seq ?_
  refine co_reg ?_
  refine pl_val (v := .bool false) h0 rfl rfl rfl (by kernel_rfl) (by kernel_rfl) (by kernel_rfl) (fun a1 h1 => ?_); clear h0
  refine pl_nil ?_
  refine co_then ?_
  refine co_seq ?_
  refine co_seq ?_
  refine co_reg ?_
  refine pl_val (v := v) h1 rfl rfl rfl (by kernel_rfl) (by kernel_rfl) (by kernel_rfl) (fun a2 h2 => ?_); clear h1
  refine pl_val (v := .int .i64 ((l.length : Nat) : Int)) h2 rfl rfl rfl (by kernel_rfl) (by kernel_rfl) (rn_len rfl rfl Try.underlying77 hs) (fun a3 h3 => ?_); clear h2
  refine pl_val (v := .bool (decide (((l.length : Nat) : Int) > 60))) h3 rfl rfl rfl (by kernel_rfl) (by kernel_rfl) (by kernel_rfl) (fun a4 h4 => ?_); clear h3
  refine pl_nil ?_
  refine co_then ?_
  cases hc5 : (decide (((l.length : Nat) : Int) > 60))
  ·
    rw [hc5] at h4
    have hp6 : ¬ (((l.length : Nat) : Int) > 60) := of_decide_eq_false hc5
    clear hc5
    refine co_false h4 rfl ?_
    refine wp_skip ?_
    refine co_then ?_
    refine co_seq ?_
    refine co_reg ?_
    refine pl_val (v := v) h4 rfl rfl rfl (by kernel_rfl) (by kernel_rfl) (by kernel_rfl) (fun a7 h7 => ?_); clear h4
    refine pl_val (v := .int .i64 id) h7 rfl rfl rfl (by kernel_rfl) (by kernel_rfl) (by kernel_rfl) (fun a8 h8 => ?_); clear h7
    refine pl_val (v := .int .u64 ts) h8 rfl rfl rfl (by kernel_rfl) (by kernel_rfl) (by kernel_rfl) (fun a9 h9 => ?_); clear h8
    refine pl_want h9 rfl rfl rfl (op_call (args := #[v, .int .i64 id, .int .u64 ts]) (R := fun res xw => ∃ u : Value, res = .tuple #[u, .int .i64 ((grantP l id ts).2)] ∧ xw.ownsRow w.heap.size 46 3 u ((grantP l id ts).1).length (((grantP l id ts).1).flatMap pinE) ∧ Below w.heap.size w xw) rfl rfl rfl (by kernel_rfl) (by kernel_rfl) (Try.call36 _ _) (leaseGrant_any v l id ts ((grantP l id ts).1) ((grantP l id ts).2) w hs (by first | omega | (simp; done) | (simp; omega)) rfl) (by rintro e x ⟨u, rfl, hq13, hb14⟩; exact ⟨_, rfl, ⟨u, rfl, hq13, hb14⟩⟩)) ?_; clear h9
    rintro _ w11 a10 ⟨u12, rfl, hq13, hb14⟩ h10
    have hB15 := hb_call hB0 hb14
    have hz16 := hB15.size
    have hz17 := hb14.size
    have kb18 := grant_bd l id ts
    refine pl_val (v := .tuple #[u12, .int .i64 ((grantP l id ts).2)]) h10 rfl rfl rfl (by kernel_rfl) (by kernel_rfl) (by kernel_rfl) (fun a19 h19 => ?_); clear h10
    refine pl_val (v := u12) h19 rfl rfl rfl (by kernel_rfl) (by kernel_rfl) (by kernel_rfl) (fun a20 h20 => ?_); clear h19
    refine pl_val (v := .int .i64 ((grantP l id ts).2)) h20 rfl rfl rfl (by kernel_rfl) (by kernel_rfl) (by kernel_rfl) (fun a21 h21 => ?_); clear h20
    refine pl_val (v := u12) h21 rfl rfl rfl (by kernel_rfl) (by kernel_rfl) (by kernel_rfl) (fun a22 h22 => ?_); clear h21
    refine pl_val (v := .int .i64 ((grantP l id ts).2)) h22 rfl rfl rfl (by kernel_rfl) (by kernel_rfl) (by kernel_rfl) (fun a23 h23 => ?_); clear h22
    refine pl_nil ?_
    refine co_then ?_
    refine co_seq ?_
    refine co_reg ?_
    refine pl_val (v := v) h23 rfl rfl rfl (by kernel_rfl) (by kernel_rfl) (by kernel_rfl) (fun a24 h24 => ?_); clear h23
    refine pl_val (v := .int .i64 id) h24 rfl rfl rfl (by kernel_rfl) (by kernel_rfl) (by kernel_rfl) (fun a25 h25 => ?_); clear h24
    refine pl_val (v := .int .u64 ts) h25 rfl rfl rfl (by kernel_rfl) (by kernel_rfl) (by kernel_rfl) (fun a26 h26 => ?_); clear h25
    refine pl_want h26 rfl rfl rfl (op_call (args := #[v, .int .i64 id, .int .u64 ts]) (R := fun res xw => ∃ u : Value, res = .tuple #[u, .int .i64 ((grantP l id ts).2)] ∧ xw.ownsRow w11.heap.size 46 3 u ((grantP l id ts).1).length (((grantP l id ts).1).flatMap pinE) ∧ Below w11.heap.size w11 xw) rfl rfl rfl (by kernel_rfl) (by kernel_rfl) (Try.call37 _ _) (rleaseGrant_any v l id ts ((grantP l id ts).1) ((grantP l id ts).2) w11 (hs.below hB15) (by first | omega | (simp; done) | (simp; omega)) rfl) (by rintro e x ⟨u, rfl, hq30, hb31⟩; exact ⟨_, rfl, ⟨u, rfl, hq30, hb31⟩⟩)) ?_; clear h26
    rintro _ w28 a27 ⟨u29, rfl, hq30, hb31⟩ h27
    have hB32 := hb_call hB15 hb31
    have hz33 := hB32.size
    have hz34 := hb31.size
    have hr35 := row_kept_new hq13 (below_grown hb31)
    have kb36 := grant_bd l id ts
    refine pl_val (v := .tuple #[u29, .int .i64 ((grantP l id ts).2)]) h27 rfl rfl rfl (by kernel_rfl) (by kernel_rfl) (by kernel_rfl) (fun a37 h37 => ?_); clear h27
    refine pl_val (v := u29) h37 rfl rfl rfl (by kernel_rfl) (by kernel_rfl) (by kernel_rfl) (fun a38 h38 => ?_); clear h37
    refine pl_val (v := .int .i64 ((grantP l id ts).2)) h38 rfl rfl rfl (by kernel_rfl) (by kernel_rfl) (by kernel_rfl) (fun a39 h39 => ?_); clear h38
    refine pl_val (v := u29) h39 rfl rfl rfl (by kernel_rfl) (by kernel_rfl) (by kernel_rfl) (fun a40 h40 => ?_); clear h39
    refine pl_val (v := .int .i64 ((grantP l id ts).2)) h40 rfl rfl rfl (by kernel_rfl) (by kernel_rfl) (by kernel_rfl) (fun a41 h41 => ?_); clear h40
    refine pl_nil ?_
    refine co_then ?_
    refine co_seq ?_
    refine co_reg ?_
    refine pl_val (v := v) h41 rfl rfl rfl (by kernel_rfl) (by kernel_rfl) (by kernel_rfl) (fun a42 h42 => ?_); clear h41
    refine pl_val (v := .int .i64 id) h42 rfl rfl rfl (by kernel_rfl) (by kernel_rfl) (by kernel_rfl) (fun a43 h43 => ?_); clear h42
    refine pl_want h43 rfl rfl rfl (op_call (args := #[v, .int .i64 id]) (R := fun res xw => ∃ u : Value, res = .tuple #[u, .int .i64 ((renewP l id).2)] ∧ xw.ownsRow w28.heap.size 46 3 u ((renewP l id).1).length (((renewP l id).1).flatMap pinE) ∧ Below w28.heap.size w28 xw) rfl rfl rfl (by kernel_rfl) (by kernel_rfl) (Try.call38 _ _) (leaseRenew_any v l id ((renewP l id).1) ((renewP l id).2) w28 (hs.below hB32) (by first | omega | (simp; done) | (simp; omega)) rfl) (by rintro e x ⟨u, rfl, hq47, hb48⟩; exact ⟨_, rfl, ⟨u, rfl, hq47, hb48⟩⟩)) ?_; clear h43
    rintro _ w45 a44 ⟨u46, rfl, hq47, hb48⟩ h44
    have hB49 := hb_call hB32 hb48
    have hz50 := hB49.size
    have hz51 := hb48.size
    have hr52 := row_kept_new hr35 (below_grown hb48)
    have hr53 := row_kept_new hq30 (below_grown hb48)
    have kb54 := renew_bd l id
    refine pl_val (v := .tuple #[u46, .int .i64 ((renewP l id).2)]) h44 rfl rfl rfl (by kernel_rfl) (by kernel_rfl) (by kernel_rfl) (fun a55 h55 => ?_); clear h44
    refine pl_val (v := u46) h55 rfl rfl rfl (by kernel_rfl) (by kernel_rfl) (by kernel_rfl) (fun a56 h56 => ?_); clear h55
    refine pl_val (v := .int .i64 ((renewP l id).2)) h56 rfl rfl rfl (by kernel_rfl) (by kernel_rfl) (by kernel_rfl) (fun a57 h57 => ?_); clear h56
    refine pl_val (v := u46) h57 rfl rfl rfl (by kernel_rfl) (by kernel_rfl) (by kernel_rfl) (fun a58 h58 => ?_); clear h57
    refine pl_val (v := .int .i64 ((renewP l id).2)) h58 rfl rfl rfl (by kernel_rfl) (by kernel_rfl) (by kernel_rfl) (fun a59 h59 => ?_); clear h58
    refine pl_nil ?_
    refine co_then ?_
    refine co_seq ?_
    refine co_reg ?_
    refine pl_val (v := v) h59 rfl rfl rfl (by kernel_rfl) (by kernel_rfl) (by kernel_rfl) (fun a60 h60 => ?_); clear h59
    refine pl_val (v := .int .i64 id) h60 rfl rfl rfl (by kernel_rfl) (by kernel_rfl) (by kernel_rfl) (fun a61 h61 => ?_); clear h60
    refine pl_want h61 rfl rfl rfl (op_call (args := #[v, .int .i64 id]) (R := fun res xw => ∃ u : Value, res = .tuple #[u, .int .i64 ((renewP l id).2)] ∧ xw.ownsRow w45.heap.size 46 3 u ((renewP l id).1).length (((renewP l id).1).flatMap pinE) ∧ Below w45.heap.size w45 xw) rfl rfl rfl (by kernel_rfl) (by kernel_rfl) (Try.call39 _ _) (rleaseRenew_any v l id ((renewP l id).1) ((renewP l id).2) w45 (hs.below hB49) (by first | omega | (simp; done) | (simp; omega)) rfl) (by rintro e x ⟨u, rfl, hq65, hb66⟩; exact ⟨_, rfl, ⟨u, rfl, hq65, hb66⟩⟩)) ?_; clear h61
    rintro _ w63 a62 ⟨u64, rfl, hq65, hb66⟩ h62
    have hB67 := hb_call hB49 hb66
    have hz68 := hB67.size
    have hz69 := hb66.size
    have hr70 := row_kept_new hr52 (below_grown hb66)
    have hr71 := row_kept_new hr53 (below_grown hb66)
    have hr72 := row_kept_new hq47 (below_grown hb66)
    have kb73 := renew_bd l id
    refine pl_val (v := .tuple #[u64, .int .i64 ((renewP l id).2)]) h62 rfl rfl rfl (by kernel_rfl) (by kernel_rfl) (by kernel_rfl) (fun a74 h74 => ?_); clear h62
    refine pl_val (v := u64) h74 rfl rfl rfl (by kernel_rfl) (by kernel_rfl) (by kernel_rfl) (fun a75 h75 => ?_); clear h74
    refine pl_val (v := .int .i64 ((renewP l id).2)) h75 rfl rfl rfl (by kernel_rfl) (by kernel_rfl) (by kernel_rfl) (fun a76 h76 => ?_); clear h75
    refine pl_val (v := u64) h76 rfl rfl rfl (by kernel_rfl) (by kernel_rfl) (by kernel_rfl) (fun a77 h77 => ?_); clear h76
    refine pl_val (v := .int .i64 ((renewP l id).2)) h77 rfl rfl rfl (by kernel_rfl) (by kernel_rfl) (by kernel_rfl) (fun a78 h78 => ?_); clear h77
    refine pl_nil ?_
    refine co_then ?_
    refine co_seq ?_
    refine co_reg ?_
    refine pl_val (v := v) h78 rfl rfl rfl (by kernel_rfl) (by kernel_rfl) (by kernel_rfl) (fun a79 h79 => ?_); clear h78
    refine pl_val (v := .int .i64 id) h79 rfl rfl rfl (by kernel_rfl) (by kernel_rfl) (by kernel_rfl) (fun a80 h80 => ?_); clear h79
    refine pl_want h80 rfl rfl rfl (op_call (args := #[v, .int .i64 id]) (R := fun res xw => ∃ u : Value, res = .tuple #[u, .int .i64 ((freeP l id).2)] ∧ xw.ownsRow w63.heap.size 46 3 u ((freeP l id).1).length (((freeP l id).1).flatMap pinE) ∧ Below w63.heap.size w63 xw) rfl rfl rfl (by kernel_rfl) (by kernel_rfl) (Try.call40 _ _) (leaseFree_any v l id ((freeP l id).1) ((freeP l id).2) w63 (hs.below hB67) (by first | omega | (simp; done) | (simp; omega)) rfl) (by rintro e x ⟨u, rfl, hq84, hb85⟩; exact ⟨_, rfl, ⟨u, rfl, hq84, hb85⟩⟩)) ?_; clear h80
    rintro _ w82 a81 ⟨u83, rfl, hq84, hb85⟩ h81
    have hB86 := hb_call hB67 hb85
    have hz87 := hB86.size
    have hz88 := hb85.size
    have hr89 := row_kept_new hr70 (below_grown hb85)
    have hr90 := row_kept_new hr71 (below_grown hb85)
    have hr91 := row_kept_new hr72 (below_grown hb85)
    have hr92 := row_kept_new hq65 (below_grown hb85)
    have kb93 := free_bd l id
    refine pl_val (v := .tuple #[u83, .int .i64 ((freeP l id).2)]) h81 rfl rfl rfl (by kernel_rfl) (by kernel_rfl) (by kernel_rfl) (fun a94 h94 => ?_); clear h81
    refine pl_val (v := u83) h94 rfl rfl rfl (by kernel_rfl) (by kernel_rfl) (by kernel_rfl) (fun a95 h95 => ?_); clear h94
    refine pl_val (v := .int .i64 ((freeP l id).2)) h95 rfl rfl rfl (by kernel_rfl) (by kernel_rfl) (by kernel_rfl) (fun a96 h96 => ?_); clear h95
    refine pl_val (v := u83) h96 rfl rfl rfl (by kernel_rfl) (by kernel_rfl) (by kernel_rfl) (fun a97 h97 => ?_); clear h96
    refine pl_val (v := .int .i64 ((freeP l id).2)) h97 rfl rfl rfl (by kernel_rfl) (by kernel_rfl) (by kernel_rfl) (fun a98 h98 => ?_); clear h97
    refine pl_nil ?_
    refine co_then ?_
    refine co_seq ?_
    refine co_reg ?_
    refine pl_val (v := v) h98 rfl rfl rfl (by kernel_rfl) (by kernel_rfl) (by kernel_rfl) (fun a99 h99 => ?_); clear h98
    refine pl_val (v := .int .i64 id) h99 rfl rfl rfl (by kernel_rfl) (by kernel_rfl) (by kernel_rfl) (fun a100 h100 => ?_); clear h99
    refine pl_want h100 rfl rfl rfl (op_call (args := #[v, .int .i64 id]) (R := fun res xw => ∃ u : Value, res = .tuple #[u, .int .i64 ((freeP l id).2)] ∧ xw.ownsRow w82.heap.size 46 3 u ((freeP l id).1).length (((freeP l id).1).flatMap pinE) ∧ Below w82.heap.size w82 xw) rfl rfl rfl (by kernel_rfl) (by kernel_rfl) (Try.call41 _ _) (rleaseFree_any v l id ((freeP l id).1) ((freeP l id).2) w82 (hs.below hB86) (by first | omega | (simp; done) | (simp; omega)) rfl) (by rintro e x ⟨u, rfl, hq104, hb105⟩; exact ⟨_, rfl, ⟨u, rfl, hq104, hb105⟩⟩)) ?_; clear h100
    rintro _ w102 a101 ⟨u103, rfl, hq104, hb105⟩ h101
    have hB106 := hb_call hB86 hb105
    have hz107 := hB106.size
    have hz108 := hb105.size
    have hr109 := row_kept_new hr89 (below_grown hb105)
    have hr110 := row_kept_new hr90 (below_grown hb105)
    have hr111 := row_kept_new hr91 (below_grown hb105)
    have hr112 := row_kept_new hr92 (below_grown hb105)
    have hr113 := row_kept_new hq84 (below_grown hb105)
    have kb114 := free_bd l id
    refine pl_val (v := .tuple #[u103, .int .i64 ((freeP l id).2)]) h101 rfl rfl rfl (by kernel_rfl) (by kernel_rfl) (by kernel_rfl) (fun a115 h115 => ?_); clear h101
    refine pl_val (v := u103) h115 rfl rfl rfl (by kernel_rfl) (by kernel_rfl) (by kernel_rfl) (fun a116 h116 => ?_); clear h115
    refine pl_val (v := .int .i64 ((freeP l id).2)) h116 rfl rfl rfl (by kernel_rfl) (by kernel_rfl) (by kernel_rfl) (fun a117 h117 => ?_); clear h116
    refine pl_val (v := u103) h117 rfl rfl rfl (by kernel_rfl) (by kernel_rfl) (by kernel_rfl) (fun a118 h118 => ?_); clear h117
    refine pl_val (v := .int .i64 ((freeP l id).2)) h118 rfl rfl rfl (by kernel_rfl) (by kernel_rfl) (by kernel_rfl) (fun a119 h119 => ?_); clear h118
    refine pl_nil ?_
    refine co_then ?_
    refine co_seq ?_
    refine co_reg ?_
    refine pl_val (v := v) h119 rfl rfl rfl (by kernel_rfl) (by kernel_rfl) (by kernel_rfl) (fun a120 h120 => ?_); clear h119
    refine pl_want h120 rfl rfl rfl (op_call (args := #[v]) (R := fun res xw => ∃ u : Value, ∃ g : Value, res = .tuple #[u, g] ∧ xw.ownsRow w102.heap.size 46 3 u (stayP l).length ((stayP l).flatMap pinE) ∧ xw.ownsRow w102.heap.size 3 1 g (goneP l).length ((goneP l).flatMap (intE .i64)) ∧ Below w102.heap.size w102 xw) rfl rfl rfl (by kernel_rfl) (by kernel_rfl) (Try.call42 _ _) (leaseTick_any v l w102 (hs.below hB106) hok (by first | omega | (simp; done) | (simp; omega))) (by rintro e x ⟨u, g, rfl, hq125, hq126, hb127⟩; exact ⟨_, rfl, ⟨u, g, rfl, hq125, hq126, hb127⟩⟩)) ?_; clear h120
    rintro _ w122 a121 ⟨u123, g124, rfl, hq125, hq126, hb127⟩ h121
    have hB128 := hb_call hB106 hb127
    have hz129 := hB128.size
    have hz130 := hb127.size
    have hr131 := row_kept_new hr109 (below_grown hb127)
    have hr132 := row_kept_new hr110 (below_grown hb127)
    have hr133 := row_kept_new hr111 (below_grown hb127)
    have hr134 := row_kept_new hr112 (below_grown hb127)
    have hr135 := row_kept_new hr113 (below_grown hb127)
    have hr136 := row_kept_new hq104 (below_grown hb127)
    refine pl_val (v := .tuple #[u123, g124]) h121 rfl rfl rfl (by kernel_rfl) (by kernel_rfl) (by kernel_rfl) (fun a137 h137 => ?_); clear h121
    refine pl_val (v := u123) h137 rfl rfl rfl (by kernel_rfl) (by kernel_rfl) (by kernel_rfl) (fun a138 h138 => ?_); clear h137
    refine pl_val (v := g124) h138 rfl rfl rfl (by kernel_rfl) (by kernel_rfl) (by kernel_rfl) (fun a139 h139 => ?_); clear h138
    refine pl_val (v := u123) h139 rfl rfl rfl (by kernel_rfl) (by kernel_rfl) (by kernel_rfl) (fun a140 h140 => ?_); clear h139
    refine pl_val (v := g124) h140 rfl rfl rfl (by kernel_rfl) (by kernel_rfl) (by kernel_rfl) (fun a141 h141 => ?_); clear h140
    refine pl_nil ?_
    refine co_then ?_
    refine co_seq ?_
    refine co_reg ?_
    refine pl_val (v := v) h141 rfl rfl rfl (by kernel_rfl) (by kernel_rfl) (by kernel_rfl) (fun a142 h142 => ?_); clear h141
    refine pl_want h142 rfl rfl rfl (op_call (args := #[v]) (R := fun res xw => ∃ u : Value, ∃ g : Value, res = .tuple #[u, g] ∧ xw.ownsRow w122.heap.size 46 3 u (stayP l).length ((stayP l).flatMap pinE) ∧ xw.ownsRow w122.heap.size 3 1 g (goneP l).length ((goneP l).flatMap (intE .i64)) ∧ Below w122.heap.size w122 xw) rfl rfl rfl (by kernel_rfl) (by kernel_rfl) (Try.call43 _ _) (rleaseTick_any v l w122 (hs.below hB128) hok (by first | omega | (simp; done) | (simp; omega))) (by rintro e x ⟨u, g, rfl, hq147, hq148, hb149⟩; exact ⟨_, rfl, ⟨u, g, rfl, hq147, hq148, hb149⟩⟩)) ?_; clear h142
    rintro _ w144 a143 ⟨u145, g146, rfl, hq147, hq148, hb149⟩ h143
    have hB150 := hb_call hB128 hb149
    have hz151 := hB150.size
    have hz152 := hb149.size
    have hr153 := row_kept_new hr131 (below_grown hb149)
    have hr154 := row_kept_new hr132 (below_grown hb149)
    have hr155 := row_kept_new hr133 (below_grown hb149)
    have hr156 := row_kept_new hr134 (below_grown hb149)
    have hr157 := row_kept_new hr135 (below_grown hb149)
    have hr158 := row_kept_new hr136 (below_grown hb149)
    have hr159 := row_kept_new hq125 (below_grown hb149)
    have hr160 := row_kept_new hq126 (below_grown hb149)
    refine pl_val (v := .tuple #[u145, g146]) h143 rfl rfl rfl (by kernel_rfl) (by kernel_rfl) (by kernel_rfl) (fun a161 h161 => ?_); clear h143
    refine pl_val (v := u145) h161 rfl rfl rfl (by kernel_rfl) (by kernel_rfl) (by kernel_rfl) (fun a162 h162 => ?_); clear h161
    refine pl_val (v := g146) h162 rfl rfl rfl (by kernel_rfl) (by kernel_rfl) (by kernel_rfl) (fun a163 h163 => ?_); clear h162
    refine pl_val (v := u145) h163 rfl rfl rfl (by kernel_rfl) (by kernel_rfl) (by kernel_rfl) (fun a164 h164 => ?_); clear h163
    refine pl_val (v := g146) h164 rfl rfl rfl (by kernel_rfl) (by kernel_rfl) (by kernel_rfl) (fun a165 h165 => ?_); clear h164
    refine pl_nil ?_
    refine co_then ?_
    refine co_seq ?_
    refine co_reg ?_
    refine pl_val (v := v) h165 rfl rfl rfl (by kernel_rfl) (by kernel_rfl) (by kernel_rfl) (fun a166 h166 => ?_); clear h165
    refine pl_want h166 rfl rfl rfl (op_call (args := #[v]) (R := fun res xw => res = .tuple #[.int .u64 (minP l), .bool (decide (0 < (l.length : Int)))] ∧ Below w144.heap.size w144 xw) rfl rfl rfl (by kernel_rfl) (by kernel_rfl) (Try.call44 _ _) (leaseMin_any v l w144 (hs.below hB150) hok) (by rintro e x ⟨rfl, hb169⟩; exact ⟨_, rfl, ⟨rfl, hb169⟩⟩)) ?_; clear h166
    rintro _ w168 a167 ⟨rfl, hb169⟩ h167
    have hB170 := hb_call hB150 hb169
    have hz171 := hB170.size
    have hz172 := hb169.size
    have hr173 := row_kept_new hr153 (below_grown hb169)
    have hr174 := row_kept_new hr154 (below_grown hb169)
    have hr175 := row_kept_new hr155 (below_grown hb169)
    have hr176 := row_kept_new hr156 (below_grown hb169)
    have hr177 := row_kept_new hr157 (below_grown hb169)
    have hr178 := row_kept_new hr158 (below_grown hb169)
    have hr179 := row_kept_new hr159 (below_grown hb169)
    have hr180 := row_kept_new hr160 (below_grown hb169)
    have hr181 := row_kept_new hq147 (below_grown hb169)
    have hr182 := row_kept_new hq148 (below_grown hb169)
    refine pl_val (v := .tuple #[.int .u64 (minP l), .bool (decide (0 < (l.length : Int)))]) h167 rfl rfl rfl (by kernel_rfl) (by kernel_rfl) (by kernel_rfl) (fun a183 h183 => ?_); clear h167
    refine pl_val (v := .int .u64 (minP l)) h183 rfl rfl rfl (by kernel_rfl) (by kernel_rfl) (by kernel_rfl) (fun a184 h184 => ?_); clear h183
    refine pl_val (v := .bool (decide (0 < (l.length : Int)))) h184 rfl rfl rfl (by kernel_rfl) (by kernel_rfl) (by kernel_rfl) (fun a185 h185 => ?_); clear h184
    refine pl_val (v := .int .u64 (minP l)) h185 rfl rfl rfl (by kernel_rfl) (by kernel_rfl) (by kernel_rfl) (fun a186 h186 => ?_); clear h185
    refine pl_val (v := .bool (decide (0 < (l.length : Int)))) h186 rfl rfl rfl (by kernel_rfl) (by kernel_rfl) (by kernel_rfl) (fun a187 h187 => ?_); clear h186
    refine pl_nil ?_
    refine co_then ?_
    refine co_seq ?_
    refine co_reg ?_
    refine pl_val (v := v) h187 rfl rfl rfl (by kernel_rfl) (by kernel_rfl) (by kernel_rfl) (fun a188 h188 => ?_); clear h187
    refine pl_want h188 rfl rfl rfl (op_call (args := #[v]) (R := fun res xw => res = .tuple #[.int .u64 (minP l), .bool (decide (0 < (l.length : Int)))] ∧ Below w168.heap.size w168 xw) rfl rfl rfl (by kernel_rfl) (by kernel_rfl) (Try.call45 _ _) (rleaseMin_any v l w168 (hs.below hB170) hok) (by rintro e x ⟨rfl, hb191⟩; exact ⟨_, rfl, ⟨rfl, hb191⟩⟩)) ?_; clear h188
    rintro _ w190 a189 ⟨rfl, hb191⟩ h189
    have hB192 := hb_call hB170 hb191
    have hz193 := hB192.size
    have hz194 := hb191.size
    have hr195 := row_kept_new hr173 (below_grown hb191)
    have hr196 := row_kept_new hr174 (below_grown hb191)
    have hr197 := row_kept_new hr175 (below_grown hb191)
    have hr198 := row_kept_new hr176 (below_grown hb191)
    have hr199 := row_kept_new hr177 (below_grown hb191)
    have hr200 := row_kept_new hr178 (below_grown hb191)
    have hr201 := row_kept_new hr179 (below_grown hb191)
    have hr202 := row_kept_new hr180 (below_grown hb191)
    have hr203 := row_kept_new hr181 (below_grown hb191)
    have hr204 := row_kept_new hr182 (below_grown hb191)
    refine pl_val (v := .tuple #[.int .u64 (minP l), .bool (decide (0 < (l.length : Int)))]) h189 rfl rfl rfl (by kernel_rfl) (by kernel_rfl) (by kernel_rfl) (fun a205 h205 => ?_); clear h189
    refine pl_val (v := .int .u64 (minP l)) h205 rfl rfl rfl (by kernel_rfl) (by kernel_rfl) (by kernel_rfl) (fun a206 h206 => ?_); clear h205
    refine pl_val (v := .bool (decide (0 < (l.length : Int)))) h206 rfl rfl rfl (by kernel_rfl) (by kernel_rfl) (by kernel_rfl) (fun a207 h207 => ?_); clear h206
    refine pl_val (v := .int .u64 (minP l)) h207 rfl rfl rfl (by kernel_rfl) (by kernel_rfl) (by kernel_rfl) (fun a208 h208 => ?_); clear h207
    refine pl_val (v := .bool (decide (0 < (l.length : Int)))) h208 rfl rfl rfl (by kernel_rfl) (by kernel_rfl) (by kernel_rfl) (fun a209 h209 => ?_); clear h208
    refine pl_nil ?_
    refine co_then ?_
    refine co_seq ?_
    refine co_reg ?_
    refine pl_val (v := u12) h209 rfl rfl rfl (by kernel_rfl) (by kernel_rfl) (by kernel_rfl) (fun a210 h210 => ?_); clear h209
    refine pl_val (v := u29) h210 rfl rfl rfl (by kernel_rfl) (by kernel_rfl) (by kernel_rfl) (fun a211 h211 => ?_); clear h210
    refine pl_want h211 rfl rfl rfl (op_call (args := #[u12, u29]) (R := fun res xw => res = .bool true ∧ Below w190.heap.size w190 xw) rfl rfl rfl (by kernel_rfl) (by kernel_rfl) (Try.call46 _ _) (samePins_any u12 u29 ((grantP l id ts).1) w190 (row_sl hr195 pinE_len) (row_sl hr196 pinE_len)) (by rintro e x ⟨rfl, hb214⟩; exact ⟨_, rfl, ⟨rfl, hb214⟩⟩)) ?_; clear h211
    rintro _ w213 a212 ⟨rfl, hb214⟩ h212
    have hB215 := hb_call hB192 hb214
    have hz216 := hB215.size
    have hz217 := hb214.size
    have hr218 := row_kept_new hr195 (below_grown hb214)
    have hr219 := row_kept_new hr196 (below_grown hb214)
    have hr220 := row_kept_new hr197 (below_grown hb214)
    have hr221 := row_kept_new hr198 (below_grown hb214)
    have hr222 := row_kept_new hr199 (below_grown hb214)
    have hr223 := row_kept_new hr200 (below_grown hb214)
    have hr224 := row_kept_new hr201 (below_grown hb214)
    have hr225 := row_kept_new hr202 (below_grown hb214)
    have hr226 := row_kept_new hr203 (below_grown hb214)
    have hr227 := row_kept_new hr204 (below_grown hb214)
    refine pl_val (v := .bool true) h212 rfl rfl rfl (by kernel_rfl) (by kernel_rfl) (by kernel_rfl) (fun a228 h228 => ?_); clear h212
    refine pl_val (v := .int .i64 ((grantP l id ts).2)) h228 rfl rfl rfl (by kernel_rfl) (by kernel_rfl) (by kernel_rfl) (fun a229 h229 => ?_); clear h228
    refine pl_val (v := .int .i64 ((grantP l id ts).2)) h229 rfl rfl rfl (by kernel_rfl) (by kernel_rfl) (by kernel_rfl) (fun a230 h230 => ?_); clear h229
    refine pl_val (v := .bool (((grantP l id ts).2) == ((grantP l id ts).2))) h230 rfl rfl rfl (by kernel_rfl) (by kernel_rfl) (by kernel_rfl) (fun a231 h231 => ?_); clear h230
    refine pl_val (v := .bool (((grantP l id ts).2) == ((grantP l id ts).2))) h231 rfl rfl rfl (by kernel_rfl) (by kernel_rfl) (by kernel_rfl) (fun a232 h232 => ?_); clear h231
    refine pl_val (v := .bool (((grantP l id ts).2) == ((grantP l id ts).2))) h232 rfl rfl rfl (by kernel_rfl) (by kernel_rfl) (by kernel_rfl) (fun a233 h233 => ?_); clear h232
    have hc234 : (((grantP l id ts).2) == ((grantP l id ts).2)) = true := by first | (simp; done) | (simp; omega)
    rw [hc234] at h233; clear hc234
    refine pl_val (v := u46) h233 rfl rfl rfl (by kernel_rfl) (by kernel_rfl) (by kernel_rfl) (fun a235 h235 => ?_); clear h233
    refine pl_val (v := u64) h235 rfl rfl rfl (by kernel_rfl) (by kernel_rfl) (by kernel_rfl) (fun a236 h236 => ?_); clear h235
    refine pl_want h236 rfl rfl rfl (op_call (args := #[u46, u64]) (R := fun res xw => res = .bool true ∧ Below w213.heap.size w213 xw) rfl rfl rfl (by kernel_rfl) (by kernel_rfl) (Try.call46 _ _) (samePins_any u46 u64 ((renewP l id).1) w213 (row_sl hr220 pinE_len) (row_sl hr221 pinE_len)) (by rintro e x ⟨rfl, hb239⟩; exact ⟨_, rfl, ⟨rfl, hb239⟩⟩)) ?_; clear h236
    rintro _ w238 a237 ⟨rfl, hb239⟩ h237
    have hB240 := hb_call hB215 hb239
    have hz241 := hB240.size
    have hz242 := hb239.size
    have hr243 := row_kept_new hr218 (below_grown hb239)
    have hr244 := row_kept_new hr219 (below_grown hb239)
    have hr245 := row_kept_new hr220 (below_grown hb239)
    have hr246 := row_kept_new hr221 (below_grown hb239)
    have hr247 := row_kept_new hr222 (below_grown hb239)
    have hr248 := row_kept_new hr223 (below_grown hb239)
    have hr249 := row_kept_new hr224 (below_grown hb239)
    have hr250 := row_kept_new hr225 (below_grown hb239)
    have hr251 := row_kept_new hr226 (below_grown hb239)
    have hr252 := row_kept_new hr227 (below_grown hb239)
    refine pl_val (v := .bool true) h237 rfl rfl rfl (by kernel_rfl) (by kernel_rfl) (by kernel_rfl) (fun a253 h253 => ?_); clear h237
    refine pl_val (v := .bool true) h253 rfl rfl rfl (by kernel_rfl) (by kernel_rfl) (by kernel_rfl) (fun a254 h254 => ?_); clear h253
    refine pl_val (v := .int .i64 ((renewP l id).2)) h254 rfl rfl rfl (by kernel_rfl) (by kernel_rfl) (by kernel_rfl) (fun a255 h255 => ?_); clear h254
    refine pl_val (v := .int .i64 ((renewP l id).2)) h255 rfl rfl rfl (by kernel_rfl) (by kernel_rfl) (by kernel_rfl) (fun a256 h256 => ?_); clear h255
    refine pl_val (v := .bool (((renewP l id).2) == ((renewP l id).2))) h256 rfl rfl rfl (by kernel_rfl) (by kernel_rfl) (by kernel_rfl) (fun a257 h257 => ?_); clear h256
    refine pl_val (v := .bool (((renewP l id).2) == ((renewP l id).2))) h257 rfl rfl rfl (by kernel_rfl) (by kernel_rfl) (by kernel_rfl) (fun a258 h258 => ?_); clear h257
    refine pl_val (v := .bool (((renewP l id).2) == ((renewP l id).2))) h258 rfl rfl rfl (by kernel_rfl) (by kernel_rfl) (by kernel_rfl) (fun a259 h259 => ?_); clear h258
    have hc260 : (((renewP l id).2) == ((renewP l id).2)) = true := by first | (simp; done) | (simp; omega)
    rw [hc260] at h259; clear hc260
    refine pl_val (v := u83) h259 rfl rfl rfl (by kernel_rfl) (by kernel_rfl) (by kernel_rfl) (fun a261 h261 => ?_); clear h259
    refine pl_val (v := u103) h261 rfl rfl rfl (by kernel_rfl) (by kernel_rfl) (by kernel_rfl) (fun a262 h262 => ?_); clear h261
    refine pl_want h262 rfl rfl rfl (op_call (args := #[u83, u103]) (R := fun res xw => res = .bool true ∧ Below w238.heap.size w238 xw) rfl rfl rfl (by kernel_rfl) (by kernel_rfl) (Try.call46 _ _) (samePins_any u83 u103 ((freeP l id).1) w238 (row_sl hr247 pinE_len) (row_sl hr248 pinE_len)) (by rintro e x ⟨rfl, hb265⟩; exact ⟨_, rfl, ⟨rfl, hb265⟩⟩)) ?_; clear h262
    rintro _ w264 a263 ⟨rfl, hb265⟩ h263
    have hB266 := hb_call hB240 hb265
    have hz267 := hB266.size
    have hz268 := hb265.size
    have hr269 := row_kept_new hr243 (below_grown hb265)
    have hr270 := row_kept_new hr244 (below_grown hb265)
    have hr271 := row_kept_new hr245 (below_grown hb265)
    have hr272 := row_kept_new hr246 (below_grown hb265)
    have hr273 := row_kept_new hr247 (below_grown hb265)
    have hr274 := row_kept_new hr248 (below_grown hb265)
    have hr275 := row_kept_new hr249 (below_grown hb265)
    have hr276 := row_kept_new hr250 (below_grown hb265)
    have hr277 := row_kept_new hr251 (below_grown hb265)
    have hr278 := row_kept_new hr252 (below_grown hb265)
    refine pl_val (v := .bool true) h263 rfl rfl rfl (by kernel_rfl) (by kernel_rfl) (by kernel_rfl) (fun a279 h279 => ?_); clear h263
    refine pl_val (v := .bool true) h279 rfl rfl rfl (by kernel_rfl) (by kernel_rfl) (by kernel_rfl) (fun a280 h280 => ?_); clear h279
    refine pl_val (v := .int .i64 ((freeP l id).2)) h280 rfl rfl rfl (by kernel_rfl) (by kernel_rfl) (by kernel_rfl) (fun a281 h281 => ?_); clear h280
    refine pl_val (v := .int .i64 ((freeP l id).2)) h281 rfl rfl rfl (by kernel_rfl) (by kernel_rfl) (by kernel_rfl) (fun a282 h282 => ?_); clear h281
    refine pl_val (v := .bool (((freeP l id).2) == ((freeP l id).2))) h282 rfl rfl rfl (by kernel_rfl) (by kernel_rfl) (by kernel_rfl) (fun a283 h283 => ?_); clear h282
    refine pl_val (v := .bool (((freeP l id).2) == ((freeP l id).2))) h283 rfl rfl rfl (by kernel_rfl) (by kernel_rfl) (by kernel_rfl) (fun a284 h284 => ?_); clear h283
    refine pl_val (v := .bool (((freeP l id).2) == ((freeP l id).2))) h284 rfl rfl rfl (by kernel_rfl) (by kernel_rfl) (by kernel_rfl) (fun a285 h285 => ?_); clear h284
    have hc286 : (((freeP l id).2) == ((freeP l id).2)) = true := by first | (simp; done) | (simp; omega)
    rw [hc286] at h285; clear hc286
    refine pl_val (v := u123) h285 rfl rfl rfl (by kernel_rfl) (by kernel_rfl) (by kernel_rfl) (fun a287 h287 => ?_); clear h285
    refine pl_val (v := u145) h287 rfl rfl rfl (by kernel_rfl) (by kernel_rfl) (by kernel_rfl) (fun a288 h288 => ?_); clear h287
    refine pl_want h288 rfl rfl rfl (op_call (args := #[u123, u145]) (R := fun res xw => res = .bool true ∧ Below w264.heap.size w264 xw) rfl rfl rfl (by kernel_rfl) (by kernel_rfl) (Try.call46 _ _) (samePins_any u123 u145 (stayP l) w264 (row_sl hr275 pinE_len) (row_sl hr277 pinE_len)) (by rintro e x ⟨rfl, hb291⟩; exact ⟨_, rfl, ⟨rfl, hb291⟩⟩)) ?_; clear h288
    rintro _ w290 a289 ⟨rfl, hb291⟩ h289
    have hB292 := hb_call hB266 hb291
    have hz293 := hB292.size
    have hz294 := hb291.size
    have hr295 := row_kept_new hr269 (below_grown hb291)
    have hr296 := row_kept_new hr270 (below_grown hb291)
    have hr297 := row_kept_new hr271 (below_grown hb291)
    have hr298 := row_kept_new hr272 (below_grown hb291)
    have hr299 := row_kept_new hr273 (below_grown hb291)
    have hr300 := row_kept_new hr274 (below_grown hb291)
    have hr301 := row_kept_new hr275 (below_grown hb291)
    have hr302 := row_kept_new hr276 (below_grown hb291)
    have hr303 := row_kept_new hr277 (below_grown hb291)
    have hr304 := row_kept_new hr278 (below_grown hb291)
    refine pl_val (v := .bool true) h289 rfl rfl rfl (by kernel_rfl) (by kernel_rfl) (by kernel_rfl) (fun a305 h305 => ?_); clear h289
    refine pl_val (v := .bool true) h305 rfl rfl rfl (by kernel_rfl) (by kernel_rfl) (by kernel_rfl) (fun a306 h306 => ?_); clear h305
    refine pl_val (v := g124) h306 rfl rfl rfl (by kernel_rfl) (by kernel_rfl) (by kernel_rfl) (fun a307 h307 => ?_); clear h306
    refine pl_val (v := g146) h307 rfl rfl rfl (by kernel_rfl) (by kernel_rfl) (by kernel_rfl) (fun a308 h308 => ?_); clear h307
    refine pl_want h308 rfl rfl rfl (op_call (args := #[g124, g146]) (R := fun res xw => res = .bool true ∧ Below w290.heap.size w290 xw) rfl rfl rfl (by kernel_rfl) (by kernel_rfl) (Try.call47 _ _) (sameInts_eq g124 g146 (goneP l) w290 (row_sl hr302 (intE_len .i64)) (row_sl hr304 (intE_len .i64))) (by rintro e x ⟨rfl, hb311⟩; exact ⟨_, rfl, ⟨rfl, hb311⟩⟩)) ?_; clear h308
    rintro _ w310 a309 ⟨rfl, hb311⟩ h309
    have hB312 := hb_call hB292 hb311
    have hz313 := hB312.size
    have hz314 := hb311.size
    have hr315 := row_kept_new hr295 (below_grown hb311)
    have hr316 := row_kept_new hr296 (below_grown hb311)
    have hr317 := row_kept_new hr297 (below_grown hb311)
    have hr318 := row_kept_new hr298 (below_grown hb311)
    have hr319 := row_kept_new hr299 (below_grown hb311)
    have hr320 := row_kept_new hr300 (below_grown hb311)
    have hr321 := row_kept_new hr301 (below_grown hb311)
    have hr322 := row_kept_new hr302 (below_grown hb311)
    have hr323 := row_kept_new hr303 (below_grown hb311)
    have hr324 := row_kept_new hr304 (below_grown hb311)
    refine pl_val (v := .bool true) h309 rfl rfl rfl (by kernel_rfl) (by kernel_rfl) (by kernel_rfl) (fun a325 h325 => ?_); clear h309
    refine pl_val (v := .bool true) h325 rfl rfl rfl (by kernel_rfl) (by kernel_rfl) (by kernel_rfl) (fun a326 h326 => ?_); clear h325
    refine pl_val (v := .int .u64 (minP l)) h326 rfl rfl rfl (by kernel_rfl) (by kernel_rfl) (by kernel_rfl) (fun a327 h327 => ?_); clear h326
    refine pl_val (v := .int .u64 (minP l)) h327 rfl rfl rfl (by kernel_rfl) (by kernel_rfl) (by kernel_rfl) (fun a328 h328 => ?_); clear h327
    refine pl_val (v := .bool (minP l == minP l)) h328 rfl rfl rfl (by kernel_rfl) (by kernel_rfl) (by kernel_rfl) (fun a329 h329 => ?_); clear h328
    refine pl_val (v := .bool (minP l == minP l)) h329 rfl rfl rfl (by kernel_rfl) (by kernel_rfl) (by kernel_rfl) (fun a330 h330 => ?_); clear h329
    refine pl_val (v := .bool (minP l == minP l)) h330 rfl rfl rfl (by kernel_rfl) (by kernel_rfl) (by kernel_rfl) (fun a331 h331 => ?_); clear h330
    have hc332 : (minP l == minP l) = true := by first | (simp; done) | (simp; omega)
    rw [hc332] at h331; clear hc332
    refine pl_val (v := .bool (decide (0 < (l.length : Int)))) h331 rfl rfl rfl (by kernel_rfl) (by kernel_rfl) (by kernel_rfl) (fun a333 h333 => ?_); clear h331
    refine pl_val (v := .bool (decide (0 < (l.length : Int)))) h333 rfl rfl rfl (by kernel_rfl) (by kernel_rfl) (by kernel_rfl) (fun a334 h334 => ?_); clear h333
    refine pl_val (v := .bool ((decide (0 < (l.length : Int))) == (decide (0 < (l.length : Int))))) h334 rfl rfl rfl (by kernel_rfl) (by kernel_rfl) (by kernel_rfl) (fun a335 h335 => ?_); clear h334
    refine pl_val (v := .bool ((decide (0 < (l.length : Int))) == (decide (0 < (l.length : Int))))) h335 rfl rfl rfl (by kernel_rfl) (by kernel_rfl) (by kernel_rfl) (fun a336 h336 => ?_); clear h335
    refine pl_val (v := .bool ((decide (0 < (l.length : Int))) == (decide (0 < (l.length : Int))))) h336 rfl rfl rfl (by kernel_rfl) (by kernel_rfl) (by kernel_rfl) (fun a337 h337 => ?_); clear h336
    have hc338 : ((decide (0 < (l.length : Int))) == (decide (0 < (l.length : Int)))) = true := by first | (simp; done) | (simp; omega)
    rw [hc338] at h337; clear hc338
    refine pl_val (v := v) h337 rfl rfl rfl (by kernel_rfl) (by kernel_rfl) (by kernel_rfl) (fun a339 h339 => ?_); clear h337
    refine pl_want h339 rfl rfl rfl (op_call (args := #[v]) (R := fun res xw => res = .bool (rightP l) ∧ Below w310.heap.size w310 xw) rfl rfl rfl (by kernel_rfl) (by kernel_rfl) (Try.call48 _ _) (leaseRight_any v l w310 (hs.below hB312) hok) (by rintro e x ⟨rfl, hb342⟩; exact ⟨_, rfl, ⟨rfl, hb342⟩⟩)) ?_; clear h339
    rintro _ w341 a340 ⟨rfl, hb342⟩ h340
    have hB343 := hb_call hB312 hb342
    have hz344 := hB343.size
    have hz345 := hb342.size
    have hr346 := row_kept_new hr315 (below_grown hb342)
    have hr347 := row_kept_new hr316 (below_grown hb342)
    have hr348 := row_kept_new hr317 (below_grown hb342)
    have hr349 := row_kept_new hr318 (below_grown hb342)
    have hr350 := row_kept_new hr319 (below_grown hb342)
    have hr351 := row_kept_new hr320 (below_grown hb342)
    have hr352 := row_kept_new hr321 (below_grown hb342)
    have hr353 := row_kept_new hr322 (below_grown hb342)
    have hr354 := row_kept_new hr323 (below_grown hb342)
    have hr355 := row_kept_new hr324 (below_grown hb342)
    refine pl_val (v := v) h340 rfl rfl rfl (by kernel_rfl) (by kernel_rfl) (by kernel_rfl) (fun a356 h356 => ?_); clear h340
    refine pl_want h356 rfl rfl rfl (op_call (args := #[v]) (R := fun res xw => res = .bool (rightP l) ∧ Below w341.heap.size w341 xw) rfl rfl rfl (by kernel_rfl) (by kernel_rfl) (Try.call49 _ _) (rleaseRight_any v l w341 (hs.below hB343) hok) (by rintro e x ⟨rfl, hb359⟩; exact ⟨_, rfl, ⟨rfl, hb359⟩⟩)) ?_; clear h356
    rintro _ w358 a357 ⟨rfl, hb359⟩ h357
    have hB360 := hb_call hB343 hb359
    have hz361 := hB360.size
    have hz362 := hb359.size
    have hr363 := row_kept_new hr346 (below_grown hb359)
    have hr364 := row_kept_new hr347 (below_grown hb359)
    have hr365 := row_kept_new hr348 (below_grown hb359)
    have hr366 := row_kept_new hr349 (below_grown hb359)
    have hr367 := row_kept_new hr350 (below_grown hb359)
    have hr368 := row_kept_new hr351 (below_grown hb359)
    have hr369 := row_kept_new hr352 (below_grown hb359)
    have hr370 := row_kept_new hr353 (below_grown hb359)
    have hr371 := row_kept_new hr354 (below_grown hb359)
    have hr372 := row_kept_new hr355 (below_grown hb359)
    refine pl_val (v := .bool ((rightP l) == (rightP l))) h357 rfl rfl rfl (by kernel_rfl) (by kernel_rfl) (by kernel_rfl) (fun a373 h373 => ?_); clear h357
    refine pl_val (v := .bool ((rightP l) == (rightP l))) h373 rfl rfl rfl (by kernel_rfl) (by kernel_rfl) (by kernel_rfl) (fun a374 h374 => ?_); clear h373
    refine pl_val (v := .bool ((rightP l) == (rightP l))) h374 rfl rfl rfl (by kernel_rfl) (by kernel_rfl) (by kernel_rfl) (fun a375 h375 => ?_); clear h374
    have hc376 : ((rightP l) == (rightP l)) = true := by first | (simp; done) | (simp; omega)
    rw [hc376] at h375; clear hc376
    refine pl_want h375 rfl rfl rfl (op_call (args := #[]) (R := fun res xw => res = .bool true ∧ Below w358.heap.size w358 xw) rfl rfl rfl (by kernel_rfl) (by kernel_rfl) (Try.call35 _ _) (awake25  w358 ) (by rintro e x ⟨rfl, hb379⟩; exact ⟨_, rfl, ⟨rfl, hb379⟩⟩)) ?_; clear h375
    rintro _ w378 a377 ⟨rfl, hb379⟩ h377
    have hB380 := hb_call hB360 hb379
    have hz381 := hB380.size
    have hz382 := hb379.size
    have hr383 := row_kept_new hr363 (below_grown hb379)
    have hr384 := row_kept_new hr364 (below_grown hb379)
    have hr385 := row_kept_new hr365 (below_grown hb379)
    have hr386 := row_kept_new hr366 (below_grown hb379)
    have hr387 := row_kept_new hr367 (below_grown hb379)
    have hr388 := row_kept_new hr368 (below_grown hb379)
    have hr389 := row_kept_new hr369 (below_grown hb379)
    have hr390 := row_kept_new hr370 (below_grown hb379)
    have hr391 := row_kept_new hr371 (below_grown hb379)
    have hr392 := row_kept_new hr372 (below_grown hb379)
    refine pl_val (v := .bool true) h377 rfl rfl rfl (by kernel_rfl) (by kernel_rfl) (by kernel_rfl) (fun a393 h393 => ?_); clear h377
    refine pl_val (v := .bool true) h393 rfl rfl rfl (by kernel_rfl) (by kernel_rfl) (by kernel_rfl) (fun a394 h394 => ?_); clear h393
    refine pl_nil ?_
    refine co_then ?_
    refine wp_ret ?_
    refine co_ret1 h394 rfl rfl ?_
    exact ⟨rfl, hB380⟩
  ·
    rw [hc5] at h4
    have hp395 : ((l.length : Nat) : Int) > 60 := of_decide_eq_true hc5
    clear hc5
    refine co_true h4 rfl ?_
    refine co_seq ?_
    refine co_reg ?_
    refine pl_want h4 rfl rfl rfl (op_call (args := #[]) (R := fun res xw => res = .bool true ∧ Below w.heap.size w xw) rfl rfl rfl (by kernel_rfl) (by kernel_rfl) (Try.call35 _ _) (awake25  w ) (by rintro e x ⟨rfl, hb398⟩; exact ⟨_, rfl, ⟨rfl, hb398⟩⟩)) ?_; clear h4
    rintro _ w397 a396 ⟨rfl, hb398⟩ h396
    have hB399 := hb_call hB0 hb398
    have hz400 := hB399.size
    have hz401 := hb398.size
    refine pl_val (v := .bool true) h396 rfl rfl rfl (by kernel_rfl) (by kernel_rfl) (by kernel_rfl) (fun a402 h402 => ?_); clear h396
    refine pl_nil ?_
    refine co_then ?_
    refine wp_ret ?_
    refine co_thenR ?_
    refine co_ret1 h402 rfl rfl ?_
    exact ⟨rfl, hB399⟩
end Go.Proofs.Ytfhiciaakgcbnaa
