/- catenalaw25: LeasePlays. Conditions: none. -/
import Derived.Test.YtfhiciaakgcbnaaLeaE
import Derived.Test.YtfhiciaakgcbnaaSameInts
namespace Go.Proofs.Ytfhiciaakgcbnaa
open Go.RowKit Go.PlainAid
set_option linter.unusedVariables false

set_option maxRecDepth 100000 in
theorem awake25  (w : World)  :
    Calls Try.prog 35 #[] w fun e w' => e = .returned (.bool true) ∧ Below w.heap.size w w' := by
  have hB0 := Below.refl w.heap.size w
  refine co_enter (n := 45) Try.func35 rfl rfl rfl [] rfl (fun a h0 => ?_)
  refine co_seq ?_
  refine co_reg ?_
  refine pl_val (v := .bool false) h0 rfl rfl rfl (by kernel_rfl) (by kernel_rfl) (by kernel_rfl) (fun a1 h1 => ?_); clear h0
  refine pl_nil ?_
  refine co_then ?_
  refine co_seq ?_
  refine co_reg ?_
  refine pl_want h1 rfl rfl rfl (op_call (args := #[.slice none 0 0, .int .i64 1, .int .u64 5]) (R := fun res xw => ∃ u : Value, res = .tuple #[u, .int .i64 0] ∧ xw.ownsRow w.heap.size 46 3 u ([(1, 5, 8)] : List PinT).length (([(1, 5, 8)] : List PinT).flatMap pinE) ∧ Below w.heap.size w xw) rfl rfl rfl (by kernel_rfl) (by kernel_rfl) (Try.call36 _ _) (leaseGrant_any (.slice none 0 0) ([]) 1 5 ([(1, 5, 8)] : List PinT) 0 w (sl_nil _) (by decide) (by decide)) (by rintro e x ⟨u, rfl, hq5, hb6⟩; exact ⟨_, rfl, ⟨u, rfl, hq5, hb6⟩⟩)) ?_; clear h1
  rintro _ w3 a2 ⟨u4, rfl, hq5, hb6⟩ h2
  have hB7 := hb_call hB0 hb6
  have hz8 := hB7.size
  have hz9 := hb6.size
  have hl10 := sl_len (row_sl hq5 pinE_len)
  refine pl_val (v := .tuple #[u4, .int .i64 0]) h2 rfl rfl rfl (by kernel_rfl) (by kernel_rfl) (by kernel_rfl) (fun a11 h11 => ?_); clear h2
  refine pl_val (v := u4) h11 rfl rfl rfl (by kernel_rfl) (by kernel_rfl) (by kernel_rfl) (fun a12 h12 => ?_); clear h11
  refine pl_val (v := .int .i64 0) h12 rfl rfl rfl (by kernel_rfl) (by kernel_rfl) (by kernel_rfl) (fun a13 h13 => ?_); clear h12
  refine pl_val (v := u4) h13 rfl rfl rfl (by kernel_rfl) (by kernel_rfl) (by kernel_rfl) (fun a14 h14 => ?_); clear h13
  refine pl_val (v := .int .i64 0) h14 rfl rfl rfl (by kernel_rfl) (by kernel_rfl) (by kernel_rfl) (fun a15 h15 => ?_); clear h14
  refine pl_nil ?_
  refine co_then ?_
  refine co_seq ?_
  refine co_reg ?_
  refine pl_val (v := u4) h15 rfl rfl rfl (by kernel_rfl) (by kernel_rfl) (by kernel_rfl) (fun a16 h16 => ?_); clear h15
  refine pl_want h16 rfl rfl rfl (op_call (args := #[u4, .int .i64 2, .int .u64 3]) (R := fun res xw => ∃ u : Value, res = .tuple #[u, .int .i64 0] ∧ xw.ownsRow w3.heap.size 46 3 u ([(1, 5, 8), (2, 3, 8)] : List PinT).length (([(1, 5, 8), (2, 3, 8)] : List PinT).flatMap pinE) ∧ Below w3.heap.size w3 xw) rfl rfl rfl (by kernel_rfl) (by kernel_rfl) (Try.call36 _ _) (leaseGrant_any u4 ([(1, 5, 8)] : List PinT) 2 3 ([(1, 5, 8), (2, 3, 8)] : List PinT) 0 w3 (row_sl hq5 pinE_len) (by decide) (by decide)) (by rintro e x ⟨u, rfl, hq20, hb21⟩; exact ⟨_, rfl, ⟨u, rfl, hq20, hb21⟩⟩)) ?_; clear h16
  rintro _ w18 a17 ⟨u19, rfl, hq20, hb21⟩ h17
  have hB22 := hb_call hB7 hb21
  have hz23 := hB22.size
  have hz24 := hb21.size
  have hr25 := row_kept_new hq5 (below_grown hb21)
  have hl26 := sl_len (row_sl hq20 pinE_len)
  refine pl_val (v := .tuple #[u19, .int .i64 0]) h17 rfl rfl rfl (by kernel_rfl) (by kernel_rfl) (by kernel_rfl) (fun a27 h27 => ?_); clear h17
  refine pl_val (v := u19) h27 rfl rfl rfl (by kernel_rfl) (by kernel_rfl) (by kernel_rfl) (fun a28 h28 => ?_); clear h27
  refine pl_val (v := .int .i64 0) h28 rfl rfl rfl (by kernel_rfl) (by kernel_rfl) (by kernel_rfl) (fun a29 h29 => ?_); clear h28
  refine pl_val (v := u19) h29 rfl rfl rfl (by kernel_rfl) (by kernel_rfl) (by kernel_rfl) (fun a30 h30 => ?_); clear h29
  refine pl_val (v := .int .i64 0) h30 rfl rfl rfl (by kernel_rfl) (by kernel_rfl) (by kernel_rfl) (fun a31 h31 => ?_); clear h30
  refine pl_nil ?_
  refine co_then ?_
  refine co_seq ?_
  refine co_reg ?_
  refine pl_val (v := u19) h31 rfl rfl rfl (by kernel_rfl) (by kernel_rfl) (by kernel_rfl) (fun a32 h32 => ?_); clear h31
  refine pl_want h32 rfl rfl rfl (op_call (args := #[u19]) (R := fun res xw => res = .tuple #[.int .u64 (minP ([(1, 5, 8), (2, 3, 8)] : List PinT)), .bool (decide (0 < (([(1, 5, 8), (2, 3, 8)] : List PinT).length : Int)))] ∧ Below w18.heap.size w18 xw) rfl rfl rfl (by kernel_rfl) (by kernel_rfl) (Try.call44 _ _) (leaseMin_any u19 ([(1, 5, 8), (2, 3, 8)] : List PinT) w18 (row_sl hq20 pinE_len) (by intro z hz; simp at hz; rcases hz with rfl | rfl <;> exact ⟨rfl, rfl, rfl⟩)) (by rintro e x ⟨rfl, hb35⟩; exact ⟨_, rfl, ⟨rfl, hb35⟩⟩)) ?_; clear h32
  rintro _ w34 a33 ⟨rfl, hb35⟩ h33
  have hB36 := hb_call hB22 hb35
  have hz37 := hB36.size
  have hz38 := hb35.size
  have hr39 := row_kept_new hr25 (below_grown hb35)
  have hr40 := row_kept_new hq20 (below_grown hb35)
  refine pl_val (v := .tuple #[.int .u64 (minP ([(1, 5, 8), (2, 3, 8)] : List PinT)), .bool (decide (0 < (([(1, 5, 8), (2, 3, 8)] : List PinT).length : Int)))]) h33 rfl rfl rfl (by kernel_rfl) (by kernel_rfl) (by kernel_rfl) (fun a41 h41 => ?_); clear h33
  refine pl_val (v := .int .u64 (minP ([(1, 5, 8), (2, 3, 8)] : List PinT))) h41 rfl rfl rfl (by kernel_rfl) (by kernel_rfl) (by kernel_rfl) (fun a42 h42 => ?_); clear h41
  refine pl_val (v := .bool (decide (0 < (([(1, 5, 8), (2, 3, 8)] : List PinT).length : Int)))) h42 rfl rfl rfl (by kernel_rfl) (by kernel_rfl) (by kernel_rfl) (fun a43 h43 => ?_); clear h42
  refine pl_val (v := .int .u64 (minP ([(1, 5, 8), (2, 3, 8)] : List PinT))) h43 rfl rfl rfl (by kernel_rfl) (by kernel_rfl) (by kernel_rfl) (fun a44 h44 => ?_); clear h43
  refine pl_val (v := .bool (decide (0 < (([(1, 5, 8), (2, 3, 8)] : List PinT).length : Int)))) h44 rfl rfl rfl (by kernel_rfl) (by kernel_rfl) (by kernel_rfl) (fun a45 h45 => ?_); clear h44
  refine pl_nil ?_
  refine co_then ?_
  refine co_seq ?_
  refine co_reg ?_
  refine pl_val (v := .int .i64 0) h45 rfl rfl rfl (by kernel_rfl) (by kernel_rfl) (by kernel_rfl) (fun a46 h46 => ?_); clear h45
  refine pl_val (v := .bool ((0 : Int) == 0)) h46 rfl rfl rfl (by kernel_rfl) (by kernel_rfl) (by kernel_rfl) (fun a47 h47 => ?_); clear h46
  refine pl_val (v := .bool ((0 : Int) == 0)) h47 rfl rfl rfl (by kernel_rfl) (by kernel_rfl) (by kernel_rfl) (fun a48 h48 => ?_); clear h47
  have hc49 : ((0 : Int) == 0) = true := by first | decide | rfl | (simp_all; done)
  rw [hc49] at h48; clear hc49
  refine pl_val (v := .int .i64 0) h48 rfl rfl rfl (by kernel_rfl) (by kernel_rfl) (by kernel_rfl) (fun a50 h50 => ?_); clear h48
  refine pl_val (v := .bool ((0 : Int) == 0)) h50 rfl rfl rfl (by kernel_rfl) (by kernel_rfl) (by kernel_rfl) (fun a51 h51 => ?_); clear h50
  refine pl_val (v := .bool ((0 : Int) == 0)) h51 rfl rfl rfl (by kernel_rfl) (by kernel_rfl) (by kernel_rfl) (fun a52 h52 => ?_); clear h51
  refine pl_val (v := .bool ((0 : Int) == 0)) h52 rfl rfl rfl (by kernel_rfl) (by kernel_rfl) (by kernel_rfl) (fun a53 h53 => ?_); clear h52
  have hc54 : ((0 : Int) == 0) = true := by first | decide | rfl | (simp_all; done)
  rw [hc54] at h53; clear hc54
  refine pl_val (v := u19) h53 rfl rfl rfl (by kernel_rfl) (by kernel_rfl) (by kernel_rfl) (fun a55 h55 => ?_); clear h53
  refine pl_val (v := .int .i64 ((([(1, 5, 8), (2, 3, 8)] : List PinT).length : Nat) : Int)) h55 rfl rfl rfl (by kernel_rfl) (by kernel_rfl) (rn_lenOwn rfl rfl Try.underlying77 hr40) (fun a56 h56 => ?_); clear h55
  refine pl_val (v := .bool (((([(1, 5, 8), (2, 3, 8)] : List PinT).length : Nat) : Int) == 2)) h56 rfl rfl rfl (by kernel_rfl) (by kernel_rfl) (by kernel_rfl) (fun a57 h57 => ?_); clear h56
  refine pl_val (v := .bool (((([(1, 5, 8), (2, 3, 8)] : List PinT).length : Nat) : Int) == 2)) h57 rfl rfl rfl (by kernel_rfl) (by kernel_rfl) (by kernel_rfl) (fun a58 h58 => ?_); clear h57
  refine pl_val (v := .bool (((([(1, 5, 8), (2, 3, 8)] : List PinT).length : Nat) : Int) == 2)) h58 rfl rfl rfl (by kernel_rfl) (by kernel_rfl) (by kernel_rfl) (fun a59 h59 => ?_); clear h58
  have hc60 : (((([(1, 5, 8), (2, 3, 8)] : List PinT).length : Nat) : Int) == 2) = true := by first | decide | rfl | (simp_all; done)
  rw [hc60] at h59; clear hc60
  refine pl_val (v := .int .u64 (minP ([(1, 5, 8), (2, 3, 8)] : List PinT))) h59 rfl rfl rfl (by kernel_rfl) (by kernel_rfl) (by kernel_rfl) (fun a61 h61 => ?_); clear h59
  refine pl_val (v := .bool (minP ([(1, 5, 8), (2, 3, 8)] : List PinT) == 3)) h61 rfl rfl rfl (by kernel_rfl) (by kernel_rfl) (by kernel_rfl) (fun a62 h62 => ?_); clear h61
  refine pl_val (v := .bool (minP ([(1, 5, 8), (2, 3, 8)] : List PinT) == 3)) h62 rfl rfl rfl (by kernel_rfl) (by kernel_rfl) (by kernel_rfl) (fun a63 h63 => ?_); clear h62
  refine pl_val (v := .bool (minP ([(1, 5, 8), (2, 3, 8)] : List PinT) == 3)) h63 rfl rfl rfl (by kernel_rfl) (by kernel_rfl) (by kernel_rfl) (fun a64 h64 => ?_); clear h63
  have hc65 : (minP ([(1, 5, 8), (2, 3, 8)] : List PinT) == 3) = true := by first | decide | rfl | (simp_all; done)
  rw [hc65] at h64; clear hc65
  refine pl_val (v := .bool (decide (0 < (([(1, 5, 8), (2, 3, 8)] : List PinT).length : Int)))) h64 rfl rfl rfl (by kernel_rfl) (by kernel_rfl) (by kernel_rfl) (fun a66 h66 => ?_); clear h64
  refine pl_val (v := .bool (decide (0 < (([(1, 5, 8), (2, 3, 8)] : List PinT).length : Int)))) h66 rfl rfl rfl (by kernel_rfl) (by kernel_rfl) (by kernel_rfl) (fun a67 h67 => ?_); clear h66
  refine pl_val (v := .bool (decide (0 < (([(1, 5, 8), (2, 3, 8)] : List PinT).length : Int)))) h67 rfl rfl rfl (by kernel_rfl) (by kernel_rfl) (by kernel_rfl) (fun a68 h68 => ?_); clear h67
  have hc69 : (decide (0 < (([(1, 5, 8), (2, 3, 8)] : List PinT).length : Int))) = true := by first | decide | rfl | (simp_all; done)
  rw [hc69] at h68; clear hc69
  refine pl_val (v := u19) h68 rfl rfl rfl (by kernel_rfl) (by kernel_rfl) (by kernel_rfl) (fun a70 h70 => ?_); clear h68
  obtain ⟨y71, hy71⟩ : ∃ z, ([(1, 5, 8), (2, 3, 8)] : List PinT)[0]? = some z := ⟨_, List.getElem?_eq_getElem (by first | omega | (simp; done) | (simp; omega))⟩
  refine pl_val (v := .pointer (some ⟨(blkOf u19), offOf u19 + 0 * 3, none⟩)) h70 rfl rfl rfl (by kernel_rfl) (by kernel_rfl) (rn_index rfl rfl rfl Try.underlying77 Try.sizeOf46 (row_sl hr40 pinE_len) (by omega) (by first | omega | (simp; done) | (simp; omega))) (fun a72 h72 => ?_); clear h70
  refine pl_val (v := .pointer (some ⟨(blkOf u19), offOf u19 + 0 * 3 + 2, none⟩)) h72 rfl rfl rfl (by kernel_rfl) (by kernel_rfl) (by kernel_rfl) (fun a73 h73 => ?_); clear h72
  refine pl_val (v := .int .i64 y71.2.2) h73 rfl rfl rfl (by kernel_rfl) (by kernel_rfl) (rn_load1 rfl rfl Try.isAgg3 ((sl_at (row_sl hr40 pinE_len) hy71) 2 _ rfl)) (fun a74 h74 => ?_); clear h73
  refine pl_val (v := .bool (y71.2.2 == 8)) h74 rfl rfl rfl (by kernel_rfl) (by kernel_rfl) (by kernel_rfl) (fun a75 h75 => ?_); clear h74
  refine pl_val (v := .bool (y71.2.2 == 8)) h75 rfl rfl rfl (by kernel_rfl) (by kernel_rfl) (by kernel_rfl) (fun a76 h76 => ?_); clear h75
  refine pl_val (v := .bool (y71.2.2 == 8)) h76 rfl rfl rfl (by kernel_rfl) (by kernel_rfl) (by kernel_rfl) (fun a77 h77 => ?_); clear h76
  refine pl_nil ?_
  refine co_then ?_
  refine wp_ret ?_
  refine co_ret1 h77 rfl rfl ?_
  have hy := hy71
  simp at hy
  exact ⟨ret_bool (by rw [← hy]; rfl), hB36⟩
set_option maxRecDepth 100000 in
theorem leasePlays_any (v : Value) (l : List PinT) (id : Int) (ts : Int) (w : World) (hs : SliceOf pinE 3 w v l) (hok : ∀ z ∈ l, pinOk z) :
    Calls Try.prog 6 #[v, .int .i64 id, .int .u64 ts] w fun e w' => e = .returned (.bool true) ∧ Below w.heap.size w w' := by
  have hB0 := Below.refl w.heap.size w
  have hl_hs := sl_len hs
  refine co_enter (n := 147) Try.func6 rfl rfl rfl [(0, v), (1, .int .i64 id), (2, .int .u64 ts)] rfl (fun a h0 => ?_)
  refine co_seq ?_
  refine co_reg ?_
  refine pl_val (v := .bool false) h0 rfl rfl rfl (by kernel_rfl) (by kernel_rfl) (by kernel_rfl) (fun a1 h1 => ?_); clear h0
  refine pl_nil ?_
  refine co_then ?_
  refine co_seq ?_
  refine co_seq ?_
  refine co_reg ?_
  refine pl_val (v := v) h1 rfl rfl rfl (by kernel_rfl) (by kernel_rfl) (by kernel_rfl) (fun a2 h2 => ?_); clear h1
  refine pl_val (v := .int .i64 ((l.length : Nat) : Int)) h2 rfl rfl rfl (by kernel_rfl) (by kernel_rfl) (rn_len rfl rfl Try.underlying77 hs) (fun a3 h3 => ?_); clear h2
  refine pl_val (v := .bool (decide (((l.length : Nat) : Int) > 60))) h3 rfl rfl rfl (by kernel_rfl) (by kernel_rfl) (by kernel_rfl) (fun a4 h4 => ?_); clear h3
  refine pl_nil ?_
  refine co_then ?_
  cases hc5 : (decide (((l.length : Nat) : Int) > 60))
  ·
    rw [hc5] at h4
    have hp6 : ¬ (((l.length : Nat) : Int) > 60) := of_decide_eq_false hc5
    clear hc5
    refine co_false h4 rfl ?_
    refine wp_skip ?_
    refine co_then ?_
    refine co_seq ?_
    refine co_reg ?_
    refine pl_val (v := v) h4 rfl rfl rfl (by kernel_rfl) (by kernel_rfl) (by kernel_rfl) (fun a7 h7 => ?_); clear h4
    refine pl_val (v := .int .i64 id) h7 rfl rfl rfl (by kernel_rfl) (by kernel_rfl) (by kernel_rfl) (fun a8 h8 => ?_); clear h7
    refine pl_val (v := .int .u64 ts) h8 rfl rfl rfl (by kernel_rfl) (by kernel_rfl) (by kernel_rfl) (fun a9 h9 => ?_); clear h8
    refine pl_want h9 rfl rfl rfl (op_call (args := #[v, .int .i64 id, .int .u64 ts]) (R := fun res xw => ∃ u : Value, res = .tuple #[u, .int .i64 ((grantP l id ts).2)] ∧ xw.ownsRow w.heap.size 46 3 u ((grantP l id ts).1).length (((grantP l id ts).1).flatMap pinE) ∧ Below w.heap.size w xw) rfl rfl rfl (by kernel_rfl) (by kernel_rfl) (Try.call36 _ _) (leaseGrant_any v l id ts ((grantP l id ts).1) ((grantP l id ts).2) w hs (by first | omega | (simp; done) | (simp; omega)) rfl) (by rintro e x ⟨u, rfl, hq13, hb14⟩; exact ⟨_, rfl, ⟨u, rfl, hq13, hb14⟩⟩)) ?_; clear h9
    rintro _ w11 a10 ⟨u12, rfl, hq13, hb14⟩ h10
    have hB15 := hb_call hB0 hb14
    have hz16 := hB15.size
    have hz17 := hb14.size
    have hl18 := sl_len (row_sl hq13 pinE_len)
    have kb19 := grant_bd l id ts
    refine pl_val (v := .tuple #[u12, .int .i64 ((grantP l id ts).2)]) h10 rfl rfl rfl (by kernel_rfl) (by kernel_rfl) (by kernel_rfl) (fun a20 h20 => ?_); clear h10
    refine pl_val (v := u12) h20 rfl rfl rfl (by kernel_rfl) (by kernel_rfl) (by kernel_rfl) (fun a21 h21 => ?_); clear h20
    refine pl_val (v := .int .i64 ((grantP l id ts).2)) h21 rfl rfl rfl (by kernel_rfl) (by kernel_rfl) (by kernel_rfl) (fun a22 h22 => ?_); clear h21
    refine pl_val (v := u12) h22 rfl rfl rfl (by kernel_rfl) (by kernel_rfl) (by kernel_rfl) (fun a23 h23 => ?_); clear h22
    refine pl_val (v := .int .i64 ((grantP l id ts).2)) h23 rfl rfl rfl (by kernel_rfl) (by kernel_rfl) (by kernel_rfl) (fun a24 h24 => ?_); clear h23
    refine pl_nil ?_
    refine co_then ?_
    refine co_seq ?_
    refine co_reg ?_
    refine pl_val (v := v) h24 rfl rfl rfl (by kernel_rfl) (by kernel_rfl) (by kernel_rfl) (fun a25 h25 => ?_); clear h24
    refine pl_val (v := .int .i64 id) h25 rfl rfl rfl (by kernel_rfl) (by kernel_rfl) (by kernel_rfl) (fun a26 h26 => ?_); clear h25
    refine pl_val (v := .int .u64 ts) h26 rfl rfl rfl (by kernel_rfl) (by kernel_rfl) (by kernel_rfl) (fun a27 h27 => ?_); clear h26
    refine pl_want h27 rfl rfl rfl (op_call (args := #[v, .int .i64 id, .int .u64 ts]) (R := fun res xw => ∃ u : Value, res = .tuple #[u, .int .i64 ((grantP l id ts).2)] ∧ xw.ownsRow w11.heap.size 46 3 u ((grantP l id ts).1).length (((grantP l id ts).1).flatMap pinE) ∧ Below w11.heap.size w11 xw) rfl rfl rfl (by kernel_rfl) (by kernel_rfl) (Try.call37 _ _) (rleaseGrant_any v l id ts ((grantP l id ts).1) ((grantP l id ts).2) w11 (hs.below hB15) (by first | omega | (simp; done) | (simp; omega)) rfl) (by rintro e x ⟨u, rfl, hq31, hb32⟩; exact ⟨_, rfl, ⟨u, rfl, hq31, hb32⟩⟩)) ?_; clear h27
    rintro _ w29 a28 ⟨u30, rfl, hq31, hb32⟩ h28
    have hB33 := hb_call hB15 hb32
    have hz34 := hB33.size
    have hz35 := hb32.size
    have hr36 := row_kept_new hq13 (below_grown hb32)
    have hl37 := sl_len (row_sl hq31 pinE_len)
    have kb38 := grant_bd l id ts
    refine pl_val (v := .tuple #[u30, .int .i64 ((grantP l id ts).2)]) h28 rfl rfl rfl (by kernel_rfl) (by kernel_rfl) (by kernel_rfl) (fun a39 h39 => ?_); clear h28
    refine pl_val (v := u30) h39 rfl rfl rfl (by kernel_rfl) (by kernel_rfl) (by kernel_rfl) (fun a40 h40 => ?_); clear h39
    refine pl_val (v := .int .i64 ((grantP l id ts).2)) h40 rfl rfl rfl (by kernel_rfl) (by kernel_rfl) (by kernel_rfl) (fun a41 h41 => ?_); clear h40
    refine pl_val (v := u30) h41 rfl rfl rfl (by kernel_rfl) (by kernel_rfl) (by kernel_rfl) (fun a42 h42 => ?_); clear h41
    refine pl_val (v := .int .i64 ((grantP l id ts).2)) h42 rfl rfl rfl (by kernel_rfl) (by kernel_rfl) (by kernel_rfl) (fun a43 h43 => ?_); clear h42
    refine pl_nil ?_
    refine co_then ?_
    refine co_seq ?_
    refine co_reg ?_
    refine pl_val (v := v) h43 rfl rfl rfl (by kernel_rfl) (by kernel_rfl) (by kernel_rfl) (fun a44 h44 => ?_); clear h43
    refine pl_val (v := .int .i64 id) h44 rfl rfl rfl (by kernel_rfl) (by kernel_rfl) (by kernel_rfl) (fun a45 h45 => ?_); clear h44
    refine pl_want h45 rfl rfl rfl (op_call (args := #[v, .int .i64 id]) (R := fun res xw => ∃ u : Value, res = .tuple #[u, .int .i64 ((renewP l id).2)] ∧ xw.ownsRow w29.heap.size 46 3 u ((renewP l id).1).length (((renewP l id).1).flatMap pinE) ∧ Below w29.heap.size w29 xw) rfl rfl rfl (by kernel_rfl) (by kernel_rfl) (Try.call38 _ _) (leaseRenew_any v l id ((renewP l id).1) ((renewP l id).2) w29 (hs.below hB33) (by first | omega | (simp; done) | (simp; omega)) rfl) (by rintro e x ⟨u, rfl, hq49, hb50⟩; exact ⟨_, rfl, ⟨u, rfl, hq49, hb50⟩⟩)) ?_; clear h45
    rintro _ w47 a46 ⟨u48, rfl, hq49, hb50⟩ h46
    have hB51 := hb_call hB33 hb50
    have hz52 := hB51.size
    have hz53 := hb50.size
    have hr54 := row_kept_new hr36 (below_grown hb50)
    have hr55 := row_kept_new hq31 (below_grown hb50)
    have hl56 := sl_len (row_sl hq49 pinE_len)
    have kb57 := renew_bd l id
    refine pl_val (v := .tuple #[u48, .int .i64 ((renewP l id).2)]) h46 rfl rfl rfl (by kernel_rfl) (by kernel_rfl) (by kernel_rfl) (fun a58 h58 => ?_); clear h46
    refine pl_val (v := u48) h58 rfl rfl rfl (by kernel_rfl) (by kernel_rfl) (by kernel_rfl) (fun a59 h59 => ?_); clear h58
    refine pl_val (v := .int .i64 ((renewP l id).2)) h59 rfl rfl rfl (by kernel_rfl) (by kernel_rfl) (by kernel_rfl) (fun a60 h60 => ?_); clear h59
    refine pl_val (v := u48) h60 rfl rfl rfl (by kernel_rfl) (by kernel_rfl) (by kernel_rfl) (fun a61 h61 => ?_); clear h60
    refine pl_val (v := .int .i64 ((renewP l id).2)) h61 rfl rfl rfl (by kernel_rfl) (by kernel_rfl) (by kernel_rfl) (fun a62 h62 => ?_); clear h61
    refine pl_nil ?_
    refine co_then ?_
    refine co_seq ?_
    refine co_reg ?_
    refine pl_val (v := v) h62 rfl rfl rfl (by kernel_rfl) (by kernel_rfl) (by kernel_rfl) (fun a63 h63 => ?_); clear h62
    refine pl_val (v := .int .i64 id) h63 rfl rfl rfl (by kernel_rfl) (by kernel_rfl) (by kernel_rfl) (fun a64 h64 => ?_); clear h63
    refine pl_want h64 rfl rfl rfl (op_call (args := #[v, .int .i64 id]) (R := fun res xw => ∃ u : Value, res = .tuple #[u, .int .i64 ((renewP l id).2)] ∧ xw.ownsRow w47.heap.size 46 3 u ((renewP l id).1).length (((renewP l id).1).flatMap pinE) ∧ Below w47.heap.size w47 xw) rfl rfl rfl (by kernel_rfl) (by kernel_rfl) (Try.call39 _ _) (rleaseRenew_any v l id ((renewP l id).1) ((renewP l id).2) w47 (hs.below hB51) (by first | omega | (simp; done) | (simp; omega)) rfl) (by rintro e x ⟨u, rfl, hq68, hb69⟩; exact ⟨_, rfl, ⟨u, rfl, hq68, hb69⟩⟩)) ?_; clear h64
    rintro _ w66 a65 ⟨u67, rfl, hq68, hb69⟩ h65
    have hB70 := hb_call hB51 hb69
    have hz71 := hB70.size
    have hz72 := hb69.size
    have hr73 := row_kept_new hr54 (below_grown hb69)
    have hr74 := row_kept_new hr55 (below_grown hb69)
    have hr75 := row_kept_new hq49 (below_grown hb69)
    have hl76 := sl_len (row_sl hq68 pinE_len)
    have kb77 := renew_bd l id
    refine pl_val (v := .tuple #[u67, .int .i64 ((renewP l id).2)]) h65 rfl rfl rfl (by kernel_rfl) (by kernel_rfl) (by kernel_rfl) (fun a78 h78 => ?_); clear h65
    refine pl_val (v := u67) h78 rfl rfl rfl (by kernel_rfl) (by kernel_rfl) (by kernel_rfl) (fun a79 h79 => ?_); clear h78
    refine pl_val (v := .int .i64 ((renewP l id).2)) h79 rfl rfl rfl (by kernel_rfl) (by kernel_rfl) (by kernel_rfl) (fun a80 h80 => ?_); clear h79
    refine pl_val (v := u67) h80 rfl rfl rfl (by kernel_rfl) (by kernel_rfl) (by kernel_rfl) (fun a81 h81 => ?_); clear h80
    refine pl_val (v := .int .i64 ((renewP l id).2)) h81 rfl rfl rfl (by kernel_rfl) (by kernel_rfl) (by kernel_rfl) (fun a82 h82 => ?_); clear h81
    refine pl_nil ?_
    refine co_then ?_
    refine co_seq ?_
    refine co_reg ?_
    refine pl_val (v := v) h82 rfl rfl rfl (by kernel_rfl) (by kernel_rfl) (by kernel_rfl) (fun a83 h83 => ?_); clear h82
    refine pl_val (v := .int .i64 id) h83 rfl rfl rfl (by kernel_rfl) (by kernel_rfl) (by kernel_rfl) (fun a84 h84 => ?_); clear h83
    refine pl_want h84 rfl rfl rfl (op_call (args := #[v, .int .i64 id]) (R := fun res xw => ∃ u : Value, res = .tuple #[u, .int .i64 ((freeP l id).2)] ∧ xw.ownsRow w66.heap.size 46 3 u ((freeP l id).1).length (((freeP l id).1).flatMap pinE) ∧ Below w66.heap.size w66 xw) rfl rfl rfl (by kernel_rfl) (by kernel_rfl) (Try.call40 _ _) (leaseFree_any v l id ((freeP l id).1) ((freeP l id).2) w66 (hs.below hB70) (by first | omega | (simp; done) | (simp; omega)) rfl) (by rintro e x ⟨u, rfl, hq88, hb89⟩; exact ⟨_, rfl, ⟨u, rfl, hq88, hb89⟩⟩)) ?_; clear h84
    rintro _ w86 a85 ⟨u87, rfl, hq88, hb89⟩ h85
    have hB90 := hb_call hB70 hb89
    have hz91 := hB90.size
    have hz92 := hb89.size
    have hr93 := row_kept_new hr73 (below_grown hb89)
    have hr94 := row_kept_new hr74 (below_grown hb89)
    have hr95 := row_kept_new hr75 (below_grown hb89)
    have hr96 := row_kept_new hq68 (below_grown hb89)
    have hl97 := sl_len (row_sl hq88 pinE_len)
    have kb98 := free_bd l id
    refine pl_val (v := .tuple #[u87, .int .i64 ((freeP l id).2)]) h85 rfl rfl rfl (by kernel_rfl) (by kernel_rfl) (by kernel_rfl) (fun a99 h99 => ?_); clear h85
    refine pl_val (v := u87) h99 rfl rfl rfl (by kernel_rfl) (by kernel_rfl) (by kernel_rfl) (fun a100 h100 => ?_); clear h99
    refine pl_val (v := .int .i64 ((freeP l id).2)) h100 rfl rfl rfl (by kernel_rfl) (by kernel_rfl) (by kernel_rfl) (fun a101 h101 => ?_); clear h100
    refine pl_val (v := u87) h101 rfl rfl rfl (by kernel_rfl) (by kernel_rfl) (by kernel_rfl) (fun a102 h102 => ?_); clear h101
    refine pl_val (v := .int .i64 ((freeP l id).2)) h102 rfl rfl rfl (by kernel_rfl) (by kernel_rfl) (by kernel_rfl) (fun a103 h103 => ?_); clear h102
    refine pl_nil ?_
    refine co_then ?_
    refine co_seq ?_
    refine co_reg ?_
    refine pl_val (v := v) h103 rfl rfl rfl (by kernel_rfl) (by kernel_rfl) (by kernel_rfl) (fun a104 h104 => ?_); clear h103
    refine pl_val (v := .int .i64 id) h104 rfl rfl rfl (by kernel_rfl) (by kernel_rfl) (by kernel_rfl) (fun a105 h105 => ?_); clear h104
    refine pl_want h105 rfl rfl rfl (op_call (args := #[v, .int .i64 id]) (R := fun res xw => ∃ u : Value, res = .tuple #[u, .int .i64 ((freeP l id).2)] ∧ xw.ownsRow w86.heap.size 46 3 u ((freeP l id).1).length (((freeP l id).1).flatMap pinE) ∧ Below w86.heap.size w86 xw) rfl rfl rfl (by kernel_rfl) (by kernel_rfl) (Try.call41 _ _) (rleaseFree_any v l id ((freeP l id).1) ((freeP l id).2) w86 (hs.below hB90) (by first | omega | (simp; done) | (simp; omega)) rfl) (by rintro e x ⟨u, rfl, hq109, hb110⟩; exact ⟨_, rfl, ⟨u, rfl, hq109, hb110⟩⟩)) ?_; clear h105
    rintro _ w107 a106 ⟨u108, rfl, hq109, hb110⟩ h106
    have hB111 := hb_call hB90 hb110
    have hz112 := hB111.size
    have hz113 := hb110.size
    have hr114 := row_kept_new hr93 (below_grown hb110)
    have hr115 := row_kept_new hr94 (below_grown hb110)
    have hr116 := row_kept_new hr95 (below_grown hb110)
    have hr117 := row_kept_new hr96 (below_grown hb110)
    have hr118 := row_kept_new hq88 (below_grown hb110)
    have hl119 := sl_len (row_sl hq109 pinE_len)
    have kb120 := free_bd l id
    refine pl_val (v := .tuple #[u108, .int .i64 ((freeP l id).2)]) h106 rfl rfl rfl (by kernel_rfl) (by kernel_rfl) (by kernel_rfl) (fun a121 h121 => ?_); clear h106
    refine pl_val (v := u108) h121 rfl rfl rfl (by kernel_rfl) (by kernel_rfl) (by kernel_rfl) (fun a122 h122 => ?_); clear h121
    refine pl_val (v := .int .i64 ((freeP l id).2)) h122 rfl rfl rfl (by kernel_rfl) (by kernel_rfl) (by kernel_rfl) (fun a123 h123 => ?_); clear h122
    refine pl_val (v := u108) h123 rfl rfl rfl (by kernel_rfl) (by kernel_rfl) (by kernel_rfl) (fun a124 h124 => ?_); clear h123
    refine pl_val (v := .int .i64 ((freeP l id).2)) h124 rfl rfl rfl (by kernel_rfl) (by kernel_rfl) (by kernel_rfl) (fun a125 h125 => ?_); clear h124
    refine pl_nil ?_
    refine co_then ?_
    refine co_seq ?_
    refine co_reg ?_
    refine pl_val (v := v) h125 rfl rfl rfl (by kernel_rfl) (by kernel_rfl) (by kernel_rfl) (fun a126 h126 => ?_); clear h125
    refine pl_want h126 rfl rfl rfl (op_call (args := #[v]) (R := fun res xw => ∃ u : Value, ∃ g : Value, res = .tuple #[u, g] ∧ xw.ownsRow w107.heap.size 46 3 u (stayP l).length ((stayP l).flatMap pinE) ∧ xw.ownsRow w107.heap.size 3 1 g (goneP l).length ((goneP l).flatMap (intE .i64)) ∧ Below w107.heap.size w107 xw) rfl rfl rfl (by kernel_rfl) (by kernel_rfl) (Try.call42 _ _) (leaseTick_any v l w107 (hs.below hB111) hok (by first | omega | (simp; done) | (simp; omega))) (by rintro e x ⟨u, g, rfl, hq131, hq132, hb133⟩; exact ⟨_, rfl, ⟨u, g, rfl, hq131, hq132, hb133⟩⟩)) ?_; clear h126
    rintro _ w128 a127 ⟨u129, g130, rfl, hq131, hq132, hb133⟩ h127
    have hB134 := hb_call hB111 hb133
    have hz135 := hB134.size
    have hz136 := hb133.size
    have hr137 := row_kept_new hr114 (below_grown hb133)
    have hr138 := row_kept_new hr115 (below_grown hb133)
    have hr139 := row_kept_new hr116 (below_grown hb133)
    have hr140 := row_kept_new hr117 (below_grown hb133)
    have hr141 := row_kept_new hr118 (below_grown hb133)
    have hr142 := row_kept_new hq109 (below_grown hb133)
    have hl143 := sl_len (row_sl hq131 pinE_len)
    have hl144 := sl_len (row_sl hq132 (intE_len .i64))
    refine pl_val (v := .tuple #[u129, g130]) h127 rfl rfl rfl (by kernel_rfl) (by kernel_rfl) (by kernel_rfl) (fun a145 h145 => ?_); clear h127
    refine pl_val (v := u129) h145 rfl rfl rfl (by kernel_rfl) (by kernel_rfl) (by kernel_rfl) (fun a146 h146 => ?_); clear h145
    refine pl_val (v := g130) h146 rfl rfl rfl (by kernel_rfl) (by kernel_rfl) (by kernel_rfl) (fun a147 h147 => ?_); clear h146
    refine pl_val (v := u129) h147 rfl rfl rfl (by kernel_rfl) (by kernel_rfl) (by kernel_rfl) (fun a148 h148 => ?_); clear h147
    refine pl_val (v := g130) h148 rfl rfl rfl (by kernel_rfl) (by kernel_rfl) (by kernel_rfl) (fun a149 h149 => ?_); clear h148
    refine pl_nil ?_
    refine co_then ?_
    refine co_seq ?_
    refine co_reg ?_
    refine pl_val (v := v) h149 rfl rfl rfl (by kernel_rfl) (by kernel_rfl) (by kernel_rfl) (fun a150 h150 => ?_); clear h149
    refine pl_want h150 rfl rfl rfl (op_call (args := #[v]) (R := fun res xw => ∃ u : Value, ∃ g : Value, res = .tuple #[u, g] ∧ xw.ownsRow w128.heap.size 46 3 u (stayP l).length ((stayP l).flatMap pinE) ∧ xw.ownsRow w128.heap.size 3 1 g (goneP l).length ((goneP l).flatMap (intE .i64)) ∧ Below w128.heap.size w128 xw) rfl rfl rfl (by kernel_rfl) (by kernel_rfl) (Try.call43 _ _) (rleaseTick_any v l w128 (hs.below hB134) hok (by first | omega | (simp; done) | (simp; omega))) (by rintro e x ⟨u, g, rfl, hq155, hq156, hb157⟩; exact ⟨_, rfl, ⟨u, g, rfl, hq155, hq156, hb157⟩⟩)) ?_; clear h150
    rintro _ w152 a151 ⟨u153, g154, rfl, hq155, hq156, hb157⟩ h151
    have hB158 := hb_call hB134 hb157
    have hz159 := hB158.size
    have hz160 := hb157.size
    have hr161 := row_kept_new hr137 (below_grown hb157)
    have hr162 := row_kept_new hr138 (below_grown hb157)
    have hr163 := row_kept_new hr139 (below_grown hb157)
    have hr164 := row_kept_new hr140 (below_grown hb157)
    have hr165 := row_kept_new hr141 (below_grown hb157)
    have hr166 := row_kept_new hr142 (below_grown hb157)
    have hr167 := row_kept_new hq131 (below_grown hb157)
    have hr168 := row_kept_new hq132 (below_grown hb157)
    have hl169 := sl_len (row_sl hq155 pinE_len)
    have hl170 := sl_len (row_sl hq156 (intE_len .i64))
    refine pl_val (v := .tuple #[u153, g154]) h151 rfl rfl rfl (by kernel_rfl) (by kernel_rfl) (by kernel_rfl) (fun a171 h171 => ?_); clear h151
    refine pl_val (v := u153) h171 rfl rfl rfl (by kernel_rfl) (by kernel_rfl) (by kernel_rfl) (fun a172 h172 => ?_); clear h171
    refine pl_val (v := g154) h172 rfl rfl rfl (by kernel_rfl) (by kernel_rfl) (by kernel_rfl) (fun a173 h173 => ?_); clear h172
    refine pl_val (v := u153) h173 rfl rfl rfl (by kernel_rfl) (by kernel_rfl) (by kernel_rfl) (fun a174 h174 => ?_); clear h173
    refine pl_val (v := g154) h174 rfl rfl rfl (by kernel_rfl) (by kernel_rfl) (by kernel_rfl) (fun a175 h175 => ?_); clear h174
    refine pl_nil ?_
    refine co_then ?_
    refine co_seq ?_
    refine co_reg ?_
    refine pl_val (v := v) h175 rfl rfl rfl (by kernel_rfl) (by kernel_rfl) (by kernel_rfl) (fun a176 h176 => ?_); clear h175
    refine pl_want h176 rfl rfl rfl (op_call (args := #[v]) (R := fun res xw => res = .tuple #[.int .u64 (minP l), .bool (decide (0 < (l.length : Int)))] ∧ Below w152.heap.size w152 xw) rfl rfl rfl (by kernel_rfl) (by kernel_rfl) (Try.call44 _ _) (leaseMin_any v l w152 (hs.below hB158) hok) (by rintro e x ⟨rfl, hb179⟩; exact ⟨_, rfl, ⟨rfl, hb179⟩⟩)) ?_; clear h176
    rintro _ w178 a177 ⟨rfl, hb179⟩ h177
    have hB180 := hb_call hB158 hb179
    have hz181 := hB180.size
    have hz182 := hb179.size
    have hr183 := row_kept_new hr161 (below_grown hb179)
    have hr184 := row_kept_new hr162 (below_grown hb179)
    have hr185 := row_kept_new hr163 (below_grown hb179)
    have hr186 := row_kept_new hr164 (below_grown hb179)
    have hr187 := row_kept_new hr165 (below_grown hb179)
    have hr188 := row_kept_new hr166 (below_grown hb179)
    have hr189 := row_kept_new hr167 (below_grown hb179)
    have hr190 := row_kept_new hr168 (below_grown hb179)
    have hr191 := row_kept_new hq155 (below_grown hb179)
    have hr192 := row_kept_new hq156 (below_grown hb179)
    refine pl_val (v := .tuple #[.int .u64 (minP l), .bool (decide (0 < (l.length : Int)))]) h177 rfl rfl rfl (by kernel_rfl) (by kernel_rfl) (by kernel_rfl) (fun a193 h193 => ?_); clear h177
    refine pl_val (v := .int .u64 (minP l)) h193 rfl rfl rfl (by kernel_rfl) (by kernel_rfl) (by kernel_rfl) (fun a194 h194 => ?_); clear h193
    refine pl_val (v := .bool (decide (0 < (l.length : Int)))) h194 rfl rfl rfl (by kernel_rfl) (by kernel_rfl) (by kernel_rfl) (fun a195 h195 => ?_); clear h194
    refine pl_val (v := .int .u64 (minP l)) h195 rfl rfl rfl (by kernel_rfl) (by kernel_rfl) (by kernel_rfl) (fun a196 h196 => ?_); clear h195
    refine pl_val (v := .bool (decide (0 < (l.length : Int)))) h196 rfl rfl rfl (by kernel_rfl) (by kernel_rfl) (by kernel_rfl) (fun a197 h197 => ?_); clear h196
    refine pl_nil ?_
    refine co_then ?_
    refine co_seq ?_
    refine co_reg ?_
    refine pl_val (v := v) h197 rfl rfl rfl (by kernel_rfl) (by kernel_rfl) (by kernel_rfl) (fun a198 h198 => ?_); clear h197
    refine pl_want h198 rfl rfl rfl (op_call (args := #[v]) (R := fun res xw => res = .tuple #[.int .u64 (minP l), .bool (decide (0 < (l.length : Int)))] ∧ Below w178.heap.size w178 xw) rfl rfl rfl (by kernel_rfl) (by kernel_rfl) (Try.call45 _ _) (rleaseMin_any v l w178 (hs.below hB180) hok) (by rintro e x ⟨rfl, hb201⟩; exact ⟨_, rfl, ⟨rfl, hb201⟩⟩)) ?_; clear h198
    rintro _ w200 a199 ⟨rfl, hb201⟩ h199
    have hB202 := hb_call hB180 hb201
    have hz203 := hB202.size
    have hz204 := hb201.size
    have hr205 := row_kept_new hr183 (below_grown hb201)
    have hr206 := row_kept_new hr184 (below_grown hb201)
    have hr207 := row_kept_new hr185 (below_grown hb201)
    have hr208 := row_kept_new hr186 (below_grown hb201)
    have hr209 := row_kept_new hr187 (below_grown hb201)
    have hr210 := row_kept_new hr188 (below_grown hb201)
    have hr211 := row_kept_new hr189 (below_grown hb201)
    have hr212 := row_kept_new hr190 (below_grown hb201)
    have hr213 := row_kept_new hr191 (below_grown hb201)
    have hr214 := row_kept_new hr192 (below_grown hb201)
    refine pl_val (v := .tuple #[.int .u64 (minP l), .bool (decide (0 < (l.length : Int)))]) h199 rfl rfl rfl (by kernel_rfl) (by kernel_rfl) (by kernel_rfl) (fun a215 h215 => ?_); clear h199
    refine pl_val (v := .int .u64 (minP l)) h215 rfl rfl rfl (by kernel_rfl) (by kernel_rfl) (by kernel_rfl) (fun a216 h216 => ?_); clear h215
    refine pl_val (v := .bool (decide (0 < (l.length : Int)))) h216 rfl rfl rfl (by kernel_rfl) (by kernel_rfl) (by kernel_rfl) (fun a217 h217 => ?_); clear h216
    refine pl_val (v := .int .u64 (minP l)) h217 rfl rfl rfl (by kernel_rfl) (by kernel_rfl) (by kernel_rfl) (fun a218 h218 => ?_); clear h217
    refine pl_val (v := .bool (decide (0 < (l.length : Int)))) h218 rfl rfl rfl (by kernel_rfl) (by kernel_rfl) (by kernel_rfl) (fun a219 h219 => ?_); clear h218
    refine pl_nil ?_
    refine co_then ?_
    refine co_seq ?_
    refine co_reg ?_
    refine pl_val (v := u12) h219 rfl rfl rfl (by kernel_rfl) (by kernel_rfl) (by kernel_rfl) (fun a220 h220 => ?_); clear h219
    refine pl_val (v := u30) h220 rfl rfl rfl (by kernel_rfl) (by kernel_rfl) (by kernel_rfl) (fun a221 h221 => ?_); clear h220
    refine pl_want h221 rfl rfl rfl (op_call (args := #[u12, u30]) (R := fun res xw => res = .bool true ∧ Below w200.heap.size w200 xw) rfl rfl rfl (by kernel_rfl) (by kernel_rfl) (Try.call46 _ _) (samePins_any u12 u30 ((grantP l id ts).1) w200 (row_sl hr205 pinE_len) (row_sl hr206 pinE_len)) (by rintro e x ⟨rfl, hb224⟩; exact ⟨_, rfl, ⟨rfl, hb224⟩⟩)) ?_; clear h221
    rintro _ w223 a222 ⟨rfl, hb224⟩ h222
    have hB225 := hb_call hB202 hb224
    have hz226 := hB225.size
    have hz227 := hb224.size
    have hr228 := row_kept_new hr205 (below_grown hb224)
    have hr229 := row_kept_new hr206 (below_grown hb224)
    have hr230 := row_kept_new hr207 (below_grown hb224)
    have hr231 := row_kept_new hr208 (below_grown hb224)
    have hr232 := row_kept_new hr209 (below_grown hb224)
    have hr233 := row_kept_new hr210 (below_grown hb224)
    have hr234 := row_kept_new hr211 (below_grown hb224)
    have hr235 := row_kept_new hr212 (below_grown hb224)
    have hr236 := row_kept_new hr213 (below_grown hb224)
    have hr237 := row_kept_new hr214 (below_grown hb224)
    refine pl_val (v := .bool true) h222 rfl rfl rfl (by kernel_rfl) (by kernel_rfl) (by kernel_rfl) (fun a238 h238 => ?_); clear h222
    refine pl_val (v := .int .i64 ((grantP l id ts).2)) h238 rfl rfl rfl (by kernel_rfl) (by kernel_rfl) (by kernel_rfl) (fun a239 h239 => ?_); clear h238
    refine pl_val (v := .int .i64 ((grantP l id ts).2)) h239 rfl rfl rfl (by kernel_rfl) (by kernel_rfl) (by kernel_rfl) (fun a240 h240 => ?_); clear h239
    refine pl_val (v := .bool (((grantP l id ts).2) == ((grantP l id ts).2))) h240 rfl rfl rfl (by kernel_rfl) (by kernel_rfl) (by kernel_rfl) (fun a241 h241 => ?_); clear h240
    refine pl_val (v := .bool (((grantP l id ts).2) == ((grantP l id ts).2))) h241 rfl rfl rfl (by kernel_rfl) (by kernel_rfl) (by kernel_rfl) (fun a242 h242 => ?_); clear h241
    refine pl_val (v := .bool (((grantP l id ts).2) == ((grantP l id ts).2))) h242 rfl rfl rfl (by kernel_rfl) (by kernel_rfl) (by kernel_rfl) (fun a243 h243 => ?_); clear h242
    have hc244 : (((grantP l id ts).2) == ((grantP l id ts).2)) = true := by first | (simp; done) | (simp; omega)
    rw [hc244] at h243; clear hc244
    refine pl_val (v := u48) h243 rfl rfl rfl (by kernel_rfl) (by kernel_rfl) (by kernel_rfl) (fun a245 h245 => ?_); clear h243
    refine pl_val (v := u67) h245 rfl rfl rfl (by kernel_rfl) (by kernel_rfl) (by kernel_rfl) (fun a246 h246 => ?_); clear h245
    refine pl_want h246 rfl rfl rfl (op_call (args := #[u48, u67]) (R := fun res xw => res = .bool true ∧ Below w223.heap.size w223 xw) rfl rfl rfl (by kernel_rfl) (by kernel_rfl) (Try.call46 _ _) (samePins_any u48 u67 ((renewP l id).1) w223 (row_sl hr230 pinE_len) (row_sl hr231 pinE_len)) (by rintro e x ⟨rfl, hb249⟩; exact ⟨_, rfl, ⟨rfl, hb249⟩⟩)) ?_; clear h246
    rintro _ w248 a247 ⟨rfl, hb249⟩ h247
    have hB250 := hb_call hB225 hb249
    have hz251 := hB250.size
    have hz252 := hb249.size
    have hr253 := row_kept_new hr228 (below_grown hb249)
    have hr254 := row_kept_new hr229 (below_grown hb249)
    have hr255 := row_kept_new hr230 (below_grown hb249)
    have hr256 := row_kept_new hr231 (below_grown hb249)
    have hr257 := row_kept_new hr232 (below_grown hb249)
    have hr258 := row_kept_new hr233 (below_grown hb249)
    have hr259 := row_kept_new hr234 (below_grown hb249)
    have hr260 := row_kept_new hr235 (below_grown hb249)
    have hr261 := row_kept_new hr236 (below_grown hb249)
    have hr262 := row_kept_new hr237 (below_grown hb249)
    refine pl_val (v := .bool true) h247 rfl rfl rfl (by kernel_rfl) (by kernel_rfl) (by kernel_rfl) (fun a263 h263 => ?_); clear h247
    refine pl_val (v := .bool true) h263 rfl rfl rfl (by kernel_rfl) (by kernel_rfl) (by kernel_rfl) (fun a264 h264 => ?_); clear h263
    refine pl_val (v := .int .i64 ((renewP l id).2)) h264 rfl rfl rfl (by kernel_rfl) (by kernel_rfl) (by kernel_rfl) (fun a265 h265 => ?_); clear h264
    refine pl_val (v := .int .i64 ((renewP l id).2)) h265 rfl rfl rfl (by kernel_rfl) (by kernel_rfl) (by kernel_rfl) (fun a266 h266 => ?_); clear h265
    refine pl_val (v := .bool (((renewP l id).2) == ((renewP l id).2))) h266 rfl rfl rfl (by kernel_rfl) (by kernel_rfl) (by kernel_rfl) (fun a267 h267 => ?_); clear h266
    refine pl_val (v := .bool (((renewP l id).2) == ((renewP l id).2))) h267 rfl rfl rfl (by kernel_rfl) (by kernel_rfl) (by kernel_rfl) (fun a268 h268 => ?_); clear h267
    refine pl_val (v := .bool (((renewP l id).2) == ((renewP l id).2))) h268 rfl rfl rfl (by kernel_rfl) (by kernel_rfl) (by kernel_rfl) (fun a269 h269 => ?_); clear h268
    have hc270 : (((renewP l id).2) == ((renewP l id).2)) = true := by first | (simp; done) | (simp; omega)
    rw [hc270] at h269; clear hc270
    refine pl_val (v := u87) h269 rfl rfl rfl (by kernel_rfl) (by kernel_rfl) (by kernel_rfl) (fun a271 h271 => ?_); clear h269
    refine pl_val (v := u108) h271 rfl rfl rfl (by kernel_rfl) (by kernel_rfl) (by kernel_rfl) (fun a272 h272 => ?_); clear h271
    refine pl_want h272 rfl rfl rfl (op_call (args := #[u87, u108]) (R := fun res xw => res = .bool true ∧ Below w248.heap.size w248 xw) rfl rfl rfl (by kernel_rfl) (by kernel_rfl) (Try.call46 _ _) (samePins_any u87 u108 ((freeP l id).1) w248 (row_sl hr257 pinE_len) (row_sl hr258 pinE_len)) (by rintro e x ⟨rfl, hb275⟩; exact ⟨_, rfl, ⟨rfl, hb275⟩⟩)) ?_; clear h272
    rintro _ w274 a273 ⟨rfl, hb275⟩ h273
    have hB276 := hb_call hB250 hb275
    have hz277 := hB276.size
    have hz278 := hb275.size
    have hr279 := row_kept_new hr253 (below_grown hb275)
    have hr280 := row_kept_new hr254 (below_grown hb275)
    have hr281 := row_kept_new hr255 (below_grown hb275)
    have hr282 := row_kept_new hr256 (below_grown hb275)
    have hr283 := row_kept_new hr257 (below_grown hb275)
    have hr284 := row_kept_new hr258 (below_grown hb275)
    have hr285 := row_kept_new hr259 (below_grown hb275)
    have hr286 := row_kept_new hr260 (below_grown hb275)
    have hr287 := row_kept_new hr261 (below_grown hb275)
    have hr288 := row_kept_new hr262 (below_grown hb275)
    refine pl_val (v := .bool true) h273 rfl rfl rfl (by kernel_rfl) (by kernel_rfl) (by kernel_rfl) (fun a289 h289 => ?_); clear h273
    refine pl_val (v := .bool true) h289 rfl rfl rfl (by kernel_rfl) (by kernel_rfl) (by kernel_rfl) (fun a290 h290 => ?_); clear h289
    refine pl_val (v := .int .i64 ((freeP l id).2)) h290 rfl rfl rfl (by kernel_rfl) (by kernel_rfl) (by kernel_rfl) (fun a291 h291 => ?_); clear h290
    refine pl_val (v := .int .i64 ((freeP l id).2)) h291 rfl rfl rfl (by kernel_rfl) (by kernel_rfl) (by kernel_rfl) (fun a292 h292 => ?_); clear h291
    refine pl_val (v := .bool (((freeP l id).2) == ((freeP l id).2))) h292 rfl rfl rfl (by kernel_rfl) (by kernel_rfl) (by kernel_rfl) (fun a293 h293 => ?_); clear h292
    refine pl_val (v := .bool (((freeP l id).2) == ((freeP l id).2))) h293 rfl rfl rfl (by kernel_rfl) (by kernel_rfl) (by kernel_rfl) (fun a294 h294 => ?_); clear h293
    refine pl_val (v := .bool (((freeP l id).2) == ((freeP l id).2))) h294 rfl rfl rfl (by kernel_rfl) (by kernel_rfl) (by kernel_rfl) (fun a295 h295 => ?_); clear h294
    have hc296 : (((freeP l id).2) == ((freeP l id).2)) = true := by first | (simp; done) | (simp; omega)
    rw [hc296] at h295; clear hc296
    refine pl_val (v := u129) h295 rfl rfl rfl (by kernel_rfl) (by kernel_rfl) (by kernel_rfl) (fun a297 h297 => ?_); clear h295
    refine pl_val (v := u153) h297 rfl rfl rfl (by kernel_rfl) (by kernel_rfl) (by kernel_rfl) (fun a298 h298 => ?_); clear h297
    refine pl_want h298 rfl rfl rfl (op_call (args := #[u129, u153]) (R := fun res xw => res = .bool true ∧ Below w274.heap.size w274 xw) rfl rfl rfl (by kernel_rfl) (by kernel_rfl) (Try.call46 _ _) (samePins_any u129 u153 (stayP l) w274 (row_sl hr285 pinE_len) (row_sl hr287 pinE_len)) (by rintro e x ⟨rfl, hb301⟩; exact ⟨_, rfl, ⟨rfl, hb301⟩⟩)) ?_; clear h298
    rintro _ w300 a299 ⟨rfl, hb301⟩ h299
    have hB302 := hb_call hB276 hb301
    have hz303 := hB302.size
    have hz304 := hb301.size
    have hr305 := row_kept_new hr279 (below_grown hb301)
    have hr306 := row_kept_new hr280 (below_grown hb301)
    have hr307 := row_kept_new hr281 (below_grown hb301)
    have hr308 := row_kept_new hr282 (below_grown hb301)
    have hr309 := row_kept_new hr283 (below_grown hb301)
    have hr310 := row_kept_new hr284 (below_grown hb301)
    have hr311 := row_kept_new hr285 (below_grown hb301)
    have hr312 := row_kept_new hr286 (below_grown hb301)
    have hr313 := row_kept_new hr287 (below_grown hb301)
    have hr314 := row_kept_new hr288 (below_grown hb301)
    refine pl_val (v := .bool true) h299 rfl rfl rfl (by kernel_rfl) (by kernel_rfl) (by kernel_rfl) (fun a315 h315 => ?_); clear h299
    refine pl_val (v := .bool true) h315 rfl rfl rfl (by kernel_rfl) (by kernel_rfl) (by kernel_rfl) (fun a316 h316 => ?_); clear h315
    refine pl_val (v := g130) h316 rfl rfl rfl (by kernel_rfl) (by kernel_rfl) (by kernel_rfl) (fun a317 h317 => ?_); clear h316
    refine pl_val (v := g154) h317 rfl rfl rfl (by kernel_rfl) (by kernel_rfl) (by kernel_rfl) (fun a318 h318 => ?_); clear h317
    refine pl_want h318 rfl rfl rfl (op_call (args := #[g130, g154]) (R := fun res xw => res = .bool true ∧ Below w300.heap.size w300 xw) rfl rfl rfl (by kernel_rfl) (by kernel_rfl) (Try.call47 _ _) (sameInts_eq g130 g154 (goneP l) w300 (row_sl hr312 (intE_len .i64)) (row_sl hr314 (intE_len .i64))) (by rintro e x ⟨rfl, hb321⟩; exact ⟨_, rfl, ⟨rfl, hb321⟩⟩)) ?_; clear h318
    rintro _ w320 a319 ⟨rfl, hb321⟩ h319
    have hB322 := hb_call hB302 hb321
    have hz323 := hB322.size
    have hz324 := hb321.size
    have hr325 := row_kept_new hr305 (below_grown hb321)
    have hr326 := row_kept_new hr306 (below_grown hb321)
    have hr327 := row_kept_new hr307 (below_grown hb321)
    have hr328 := row_kept_new hr308 (below_grown hb321)
    have hr329 := row_kept_new hr309 (below_grown hb321)
    have hr330 := row_kept_new hr310 (below_grown hb321)
    have hr331 := row_kept_new hr311 (below_grown hb321)
    have hr332 := row_kept_new hr312 (below_grown hb321)
    have hr333 := row_kept_new hr313 (below_grown hb321)
    have hr334 := row_kept_new hr314 (below_grown hb321)
    refine pl_val (v := .bool true) h319 rfl rfl rfl (by kernel_rfl) (by kernel_rfl) (by kernel_rfl) (fun a335 h335 => ?_); clear h319
    refine pl_val (v := .bool true) h335 rfl rfl rfl (by kernel_rfl) (by kernel_rfl) (by kernel_rfl) (fun a336 h336 => ?_); clear h335
    refine pl_val (v := .int .u64 (minP l)) h336 rfl rfl rfl (by kernel_rfl) (by kernel_rfl) (by kernel_rfl) (fun a337 h337 => ?_); clear h336
    refine pl_val (v := .int .u64 (minP l)) h337 rfl rfl rfl (by kernel_rfl) (by kernel_rfl) (by kernel_rfl) (fun a338 h338 => ?_); clear h337
    refine pl_val (v := .bool (minP l == minP l)) h338 rfl rfl rfl (by kernel_rfl) (by kernel_rfl) (by kernel_rfl) (fun a339 h339 => ?_); clear h338
    refine pl_val (v := .bool (minP l == minP l)) h339 rfl rfl rfl (by kernel_rfl) (by kernel_rfl) (by kernel_rfl) (fun a340 h340 => ?_); clear h339
    refine pl_val (v := .bool (minP l == minP l)) h340 rfl rfl rfl (by kernel_rfl) (by kernel_rfl) (by kernel_rfl) (fun a341 h341 => ?_); clear h340
    have hc342 : (minP l == minP l) = true := by first | (simp; done) | (simp; omega)
    rw [hc342] at h341; clear hc342
    refine pl_val (v := .bool (decide (0 < (l.length : Int)))) h341 rfl rfl rfl (by kernel_rfl) (by kernel_rfl) (by kernel_rfl) (fun a343 h343 => ?_); clear h341
    refine pl_val (v := .bool (decide (0 < (l.length : Int)))) h343 rfl rfl rfl (by kernel_rfl) (by kernel_rfl) (by kernel_rfl) (fun a344 h344 => ?_); clear h343
    refine pl_val (v := .bool ((decide (0 < (l.length : Int))) == (decide (0 < (l.length : Int))))) h344 rfl rfl rfl (by kernel_rfl) (by kernel_rfl) (by kernel_rfl) (fun a345 h345 => ?_); clear h344
    refine pl_val (v := .bool ((decide (0 < (l.length : Int))) == (decide (0 < (l.length : Int))))) h345 rfl rfl rfl (by kernel_rfl) (by kernel_rfl) (by kernel_rfl) (fun a346 h346 => ?_); clear h345
    refine pl_val (v := .bool ((decide (0 < (l.length : Int))) == (decide (0 < (l.length : Int))))) h346 rfl rfl rfl (by kernel_rfl) (by kernel_rfl) (by kernel_rfl) (fun a347 h347 => ?_); clear h346
    have hc348 : ((decide (0 < (l.length : Int))) == (decide (0 < (l.length : Int)))) = true := by first | (simp; done) | (simp; omega)
    rw [hc348] at h347; clear hc348
    refine pl_val (v := v) h347 rfl rfl rfl (by kernel_rfl) (by kernel_rfl) (by kernel_rfl) (fun a349 h349 => ?_); clear h347
    refine pl_want h349 rfl rfl rfl (op_call (args := #[v]) (R := fun res xw => res = .bool (rightP l) ∧ Below w320.heap.size w320 xw) rfl rfl rfl (by kernel_rfl) (by kernel_rfl) (Try.call48 _ _) (leaseRight_any v l w320 (hs.below hB322) hok) (by rintro e x ⟨rfl, hb352⟩; exact ⟨_, rfl, ⟨rfl, hb352⟩⟩)) ?_; clear h349
    rintro _ w351 a350 ⟨rfl, hb352⟩ h350
    have hB353 := hb_call hB322 hb352
    have hz354 := hB353.size
    have hz355 := hb352.size
    have hr356 := row_kept_new hr325 (below_grown hb352)
    have hr357 := row_kept_new hr326 (below_grown hb352)
    have hr358 := row_kept_new hr327 (below_grown hb352)
    have hr359 := row_kept_new hr328 (below_grown hb352)
    have hr360 := row_kept_new hr329 (below_grown hb352)
    have hr361 := row_kept_new hr330 (below_grown hb352)
    have hr362 := row_kept_new hr331 (below_grown hb352)
    have hr363 := row_kept_new hr332 (below_grown hb352)
    have hr364 := row_kept_new hr333 (below_grown hb352)
    have hr365 := row_kept_new hr334 (below_grown hb352)
    refine pl_val (v := v) h350 rfl rfl rfl (by kernel_rfl) (by kernel_rfl) (by kernel_rfl) (fun a366 h366 => ?_); clear h350
    refine pl_want h366 rfl rfl rfl (op_call (args := #[v]) (R := fun res xw => res = .bool (rightP l) ∧ Below w351.heap.size w351 xw) rfl rfl rfl (by kernel_rfl) (by kernel_rfl) (Try.call49 _ _) (rleaseRight_any v l w351 (hs.below hB353) hok) (by rintro e x ⟨rfl, hb369⟩; exact ⟨_, rfl, ⟨rfl, hb369⟩⟩)) ?_; clear h366
    rintro _ w368 a367 ⟨rfl, hb369⟩ h367
    have hB370 := hb_call hB353 hb369
    have hz371 := hB370.size
    have hz372 := hb369.size
    have hr373 := row_kept_new hr356 (below_grown hb369)
    have hr374 := row_kept_new hr357 (below_grown hb369)
    have hr375 := row_kept_new hr358 (below_grown hb369)
    have hr376 := row_kept_new hr359 (below_grown hb369)
    have hr377 := row_kept_new hr360 (below_grown hb369)
    have hr378 := row_kept_new hr361 (below_grown hb369)
    have hr379 := row_kept_new hr362 (below_grown hb369)
    have hr380 := row_kept_new hr363 (below_grown hb369)
    have hr381 := row_kept_new hr364 (below_grown hb369)
    have hr382 := row_kept_new hr365 (below_grown hb369)
    refine pl_val (v := .bool ((rightP l) == (rightP l))) h367 rfl rfl rfl (by kernel_rfl) (by kernel_rfl) (by kernel_rfl) (fun a383 h383 => ?_); clear h367
    refine pl_val (v := .bool ((rightP l) == (rightP l))) h383 rfl rfl rfl (by kernel_rfl) (by kernel_rfl) (by kernel_rfl) (fun a384 h384 => ?_); clear h383
    refine pl_val (v := .bool ((rightP l) == (rightP l))) h384 rfl rfl rfl (by kernel_rfl) (by kernel_rfl) (by kernel_rfl) (fun a385 h385 => ?_); clear h384
    have hc386 : ((rightP l) == (rightP l)) = true := by first | (simp; done) | (simp; omega)
    rw [hc386] at h385; clear hc386
    refine pl_want h385 rfl rfl rfl (op_call (args := #[]) (R := fun res xw => res = .bool true ∧ Below w368.heap.size w368 xw) rfl rfl rfl (by kernel_rfl) (by kernel_rfl) (Try.call35 _ _) (awake25  w368 ) (by rintro e x ⟨rfl, hb389⟩; exact ⟨_, rfl, ⟨rfl, hb389⟩⟩)) ?_; clear h385
    rintro _ w388 a387 ⟨rfl, hb389⟩ h387
    have hB390 := hb_call hB370 hb389
    have hz391 := hB390.size
    have hz392 := hb389.size
    have hr393 := row_kept_new hr373 (below_grown hb389)
    have hr394 := row_kept_new hr374 (below_grown hb389)
    have hr395 := row_kept_new hr375 (below_grown hb389)
    have hr396 := row_kept_new hr376 (below_grown hb389)
    have hr397 := row_kept_new hr377 (below_grown hb389)
    have hr398 := row_kept_new hr378 (below_grown hb389)
    have hr399 := row_kept_new hr379 (below_grown hb389)
    have hr400 := row_kept_new hr380 (below_grown hb389)
    have hr401 := row_kept_new hr381 (below_grown hb389)
    have hr402 := row_kept_new hr382 (below_grown hb389)
    refine pl_val (v := .bool true) h387 rfl rfl rfl (by kernel_rfl) (by kernel_rfl) (by kernel_rfl) (fun a403 h403 => ?_); clear h387
    refine pl_val (v := .bool true) h403 rfl rfl rfl (by kernel_rfl) (by kernel_rfl) (by kernel_rfl) (fun a404 h404 => ?_); clear h403
    refine pl_nil ?_
    refine co_then ?_
    refine wp_ret ?_
    refine co_ret1 h404 rfl rfl ?_
    exact ⟨rfl, hB390⟩
  ·
    rw [hc5] at h4
    have hp405 : ((l.length : Nat) : Int) > 60 := of_decide_eq_true hc5
    clear hc5
    refine co_true h4 rfl ?_
    refine co_seq ?_
    refine co_reg ?_
    refine pl_want h4 rfl rfl rfl (op_call (args := #[]) (R := fun res xw => res = .bool true ∧ Below w.heap.size w xw) rfl rfl rfl (by kernel_rfl) (by kernel_rfl) (Try.call35 _ _) (awake25  w ) (by rintro e x ⟨rfl, hb408⟩; exact ⟨_, rfl, ⟨rfl, hb408⟩⟩)) ?_; clear h4
    rintro _ w407 a406 ⟨rfl, hb408⟩ h406
    have hB409 := hb_call hB0 hb408
    have hz410 := hB409.size
    have hz411 := hb408.size
    refine pl_val (v := .bool true) h406 rfl rfl rfl (by kernel_rfl) (by kernel_rfl) (by kernel_rfl) (fun a412 h412 => ?_); clear h406
    refine pl_nil ?_
    refine co_then ?_
    refine wp_ret ?_
    refine co_thenR ?_
    refine co_ret1 h412 rfl rfl ?_
    exact ⟨rfl, hB409⟩
end Go.Proofs.Ytfhiciaakgcbnaa
