/- catenalaw08: ItemBegins. Conditions: none. -/
import Derived.Test.YteioaaegooebpaaItemC
namespace Go.Proofs.Yteioaaegooebpaa
open Go.RowKit Go.PlainAid
set_option linter.unusedVariables false

set_option maxRecDepth 100000 in
theorem itemBegins_law (v : Value) (l : List EntT) (n : Int) (w : World) (hs : SliceOf entE 4 w v l) (hok : ∀ z ∈ l, EntOk w z) (hS : ∀ z ∈ l, EntOkS w z) (hl : l.length ≤ 2932031007403) (hn0 : (Lit.int .u8 n).wf = true) :
    Calls Try.prog 7 #[v, .int .u8 n] w fun e w' => e = .returned (.bool true) ∧ Below w.heap.size w w' := by
  have hn := wf_u8 hn0
  obtain ⟨k, hkm, hk⟩ : ∃ k : Nat, n % ((l.length : Int) + 1) = ((k : Nat) : Int) ∧ k ≤ l.length := by
    have h1 := Int.emod_nonneg n (show ((l.length : Int) + 1) ≠ 0 by omega)
    have h2 := Int.emod_lt_of_pos n (show 0 < ((l.length : Int) + 1) by omega)
    exact ⟨(n % ((l.length : Int) + 1)).toNat, by omega, by omega⟩
  have hst := stN_take l k
  have hrt := fun h => right_take (l := l) k h
  have hla := fun h => last_take (l := l) k h (fun z hz => (hok z hz).ts0)
  have hB0 := Below.refl w.heap.size w
  have hl_hs := sl_len hs
  refine co_enter (n := 47) Try.func7 rfl rfl rfl [(0, v), (1, .int .u8 n)] rfl (fun a h0 => ?_)
  refine co_seq ?_
  refine co_reg ?_
  refine pl_val (v := .bool false) h0 rfl rfl rfl (by kernel_rfl) (by kernel_rfl) (by kernel_rfl) (fun a1 h1 => ?_); clear h0
  refine pl_nil ?_
  refine co_then ?_
  refine co_seq ?_
  refine co_seq ?_
  refine co_reg ?_
  refine pl_val (v := v) h1 rfl rfl rfl (by kernel_rfl) (by kernel_rfl) (by kernel_rfl) (fun a2 h2 => ?_); clear h1
  refine pl_want h2 rfl rfl rfl (op_call (args := #[v]) (R := fun res xw => res = .int .i64 (muchN l) ∧ Below w.heap.size w xw) rfl rfl rfl (by kernel_rfl) (by kernel_rfl) (Try.call29 _ _) (much_any v l w hs (hS) (by first | omega | (simp; done) | (simp; omega))) (by rintro e x ⟨rfl, hb5⟩; exact ⟨_, rfl, ⟨rfl, hb5⟩⟩)) ?_; clear h2
  rintro _ w4 a3 ⟨rfl, hb5⟩ h3
  have hB6 := hb_call hB0 hb5
  have hz7 := hB6.size
  have hz8 := hb5.size
  refine pl_val (v := .bool (decide (muchN l > 100))) h3 rfl rfl rfl (by kernel_rfl) (by kernel_rfl) (by kernel_rfl) (fun a9 h9 => ?_); clear h3
  refine pl_val (v := .bool (decide (muchN l > 100))) h9 rfl rfl rfl (by kernel_rfl) (by kernel_rfl) (by kernel_rfl) (fun a10 h10 => ?_); clear h9
  cases hc11 : (decide (muchN l > 100))
  ·
    rw [hc11] at h10
    have hp12 : ¬ (muchN l > 100) := of_decide_eq_false hc11
    clear hc11
    refine pl_val (v := v) h10 rfl rfl rfl (by kernel_rfl) (by kernel_rfl) (by kernel_rfl) (fun a13 h13 => ?_); clear h10
    refine pl_want h13 rfl rfl rfl (op_call (args := #[v]) (R := fun res xw => res = .int .i64 (rightI l) ∧ Below w4.heap.size w4 xw) rfl rfl rfl (by kernel_rfl) (by kernel_rfl) (Try.call30 _ _) (itemRight_any v l w4 (hs.below hB6) (fun z hz => (hok z hz).below hB6)) (by rintro e x ⟨rfl, hb16⟩; exact ⟨_, rfl, ⟨rfl, hb16⟩⟩)) ?_; clear h13
    rintro _ w15 a14 ⟨rfl, hb16⟩ h14
    have hB17 := hb_call hB6 hb16
    have hz18 := hB17.size
    have hz19 := hb16.size
    refine pl_val (v := .bool (rightI l != 0)) h14 rfl rfl rfl (by kernel_rfl) (by kernel_rfl) (by kernel_rfl) (fun a20 h20 => ?_); clear h14
    refine pl_val (v := .bool (rightI l != 0)) h20 rfl rfl rfl (by kernel_rfl) (by kernel_rfl) (by kernel_rfl) (fun a21 h21 => ?_); clear h20
    refine pl_nil ?_
    refine co_then ?_
    cases hc22 : (rightI l != 0)
    ·
      rw [hc22] at h21
      have hp23 : ¬ (rightI l ≠ 0) := by first | simpa using hc22 | simpa [and_assoc] using hc22
      clear hc22
      refine co_false h21 rfl ?_
      refine wp_skip ?_
      refine co_then ?_
      refine co_seq ?_
      refine co_reg ?_
      refine pl_val (v := .int .u8 n) h21 rfl rfl rfl (by kernel_rfl) (by kernel_rfl) (by kernel_rfl) (fun a24 h24 => ?_); clear h21
      refine pl_val (v := .int .i64 n) h24 rfl rfl rfl (by kernel_rfl) (by kernel_rfl) (rn_conv rfl rfl Try.underlying5 Try.underlying3 (IntWalk.i64_in _ (by omega))) (fun a25 h25 => ?_); clear h24
      refine pl_val (v := v) h25 rfl rfl rfl (by kernel_rfl) (by kernel_rfl) (by kernel_rfl) (fun a26 h26 => ?_); clear h25
      refine pl_val (v := .int .i64 ((l.length : Nat) : Int)) h26 rfl rfl rfl (by kernel_rfl) (by kernel_rfl) (rn_len rfl rfl Try.underlying48 (hs.below hB17)) (fun a27 h27 => ?_); clear h26
      refine pl_val (v := .int .i64 ((l.length + 1 : Nat) : Int)) h27 rfl rfl rfl (by kernel_rfl) (by kernel_rfl) (rn_arith' rfl rfl rfl rfl rfl rfl (IntWalk.i64_in _ (by omega)) (by omega)) (fun a28 h28 => ?_); clear h27
      refine pl_val (v := .int .i64 ((k : Nat) : Int)) h28 rfl rfl rfl (by kernel_rfl) (by kernel_rfl) (by rw [← hkm]; exact (rn_rem rfl rfl rfl (by omega) (by omega))) (fun a29 h29 => ?_); clear h28
      refine pl_val (v := .int .i64 ((k : Nat) : Int)) h29 rfl rfl rfl (by kernel_rfl) (by kernel_rfl) (by kernel_rfl) (fun a30 h30 => ?_); clear h29
      refine pl_nil ?_
      refine co_then ?_
      refine co_seq ?_
      refine co_reg ?_
      refine pl_val (v := v) h30 rfl rfl rfl (by kernel_rfl) (by kernel_rfl) (by kernel_rfl) (fun a31 h31 => ?_); clear h30
      refine pl_val (v := .int .i64 ((k : Nat) : Int)) h31 rfl rfl rfl (by kernel_rfl) (by kernel_rfl) (by kernel_rfl) (fun a32 h32 => ?_); clear h31
      refine pl_val (v := subV v 0 k 4) h32 rfl rfl rfl (by kernel_rfl) (by kernel_rfl) (rn_sliceTo rfl rfl rfl Try.underlying48 Try.sizeOf34 (hs.below hB17) (by omega) (by omega)) (fun a33 h33 => ?_); clear h32
      refine pl_val (v := subV v 0 k 4) h33 rfl rfl rfl (by kernel_rfl) (by kernel_rfl) (by kernel_rfl) (fun a34 h34 => ?_); clear h33
      refine pl_nil ?_
      refine co_then ?_
      refine co_seq ?_
      refine co_reg ?_
      refine pl_val (v := subV v 0 k 4) h34 rfl rfl rfl (by kernel_rfl) (by kernel_rfl) (by kernel_rfl) (fun a35 h35 => ?_); clear h34
      refine pl_want h35 rfl rfl rfl (op_call (args := #[subV v 0 k 4]) (R := fun res xw => res = .int .i64 (rightI (l.take k)) ∧ Below w15.heap.size w15 xw) rfl rfl rfl (by kernel_rfl) (by kernel_rfl) (Try.call30 _ _) (itemRight_any (subV v 0 k 4) (l.take k) w15 (sl_take (hs.below hB17) _ (by omega)) (fun z hz => ((fun z hz => hok z (List.mem_of_mem_take hz)) z hz).below hB17)) (by rintro e x ⟨rfl, hb38⟩; exact ⟨_, rfl, ⟨rfl, hb38⟩⟩)) ?_; clear h35
      rintro _ w37 a36 ⟨rfl, hb38⟩ h36
      have hB39 := hb_call hB17 hb38
      have hz40 := hB39.size
      have hz41 := hb38.size
      refine pl_val (v := .bool (rightI (l.take k) == 0)) h36 rfl rfl rfl (by kernel_rfl) (by kernel_rfl) (by kernel_rfl) (fun a42 h42 => ?_); clear h36
      refine pl_val (v := .bool (rightI (l.take k) == 0)) h42 rfl rfl rfl (by kernel_rfl) (by kernel_rfl) (by kernel_rfl) (fun a43 h43 => ?_); clear h42
      have hc44 : (rightI (l.take k) == 0) = true := by first | (simp; done) | (simp; omega)
      rw [hc44] at h43; clear hc44
      refine pl_val (v := subV v 0 k 4) h43 rfl rfl rfl (by kernel_rfl) (by kernel_rfl) (by kernel_rfl) (fun a45 h45 => ?_); clear h43
      refine pl_want h45 rfl rfl rfl (op_call (args := #[subV v 0 k 4]) (R := fun res xw => res = .int .i64 ((stN (l.take k) : Nat) : Int) ∧ Below w37.heap.size w37 xw) rfl rfl rfl (by kernel_rfl) (by kernel_rfl) (Try.call32 _ _) (itemStamped_any (subV v 0 k 4) (l.take k) w37 (sl_take (hs.below hB39) _ (by omega)) (fun z hz => ((fun z hz => hok z (List.mem_of_mem_take hz)) z hz).below hB39)) (by rintro e x ⟨rfl, hb48⟩; exact ⟨_, rfl, ⟨rfl, hb48⟩⟩)) ?_; clear h45
      rintro _ w47 a46 ⟨rfl, hb48⟩ h46
      have hB49 := hb_call hB39 hb48
      have hz50 := hB49.size
      have hz51 := hb48.size
      refine pl_val (v := .int .i64 ((k : Nat) : Int)) h46 rfl rfl rfl (by kernel_rfl) (by kernel_rfl) (by kernel_rfl) (fun a52 h52 => ?_); clear h46
      refine pl_val (v := v) h52 rfl rfl rfl (by kernel_rfl) (by kernel_rfl) (by kernel_rfl) (fun a53 h53 => ?_); clear h52
      refine pl_want h53 rfl rfl rfl (op_call (args := #[v]) (R := fun res xw => res = .int .i64 ((stN l : Nat) : Int) ∧ Below w47.heap.size w47 xw) rfl rfl rfl (by kernel_rfl) (by kernel_rfl) (Try.call32 _ _) (itemStamped_any v l w47 (hs.below hB49) (fun z hz => (hok z hz).below hB49)) (by rintro e x ⟨rfl, hb56⟩; exact ⟨_, rfl, ⟨rfl, hb56⟩⟩)) ?_; clear h53
      rintro _ w55 a54 ⟨rfl, hb56⟩ h54
      have hB57 := hb_call hB49 hb56
      have hz58 := hB57.size
      have hz59 := hb56.size
      by_cases hs60 : ((stN l : Nat) : Int) < ((k : Nat) : Int)
      ·
        refine pl_val (v := .int .i64 ((stN l : Nat) : Int)) h54 rfl rfl rfl (by kernel_rfl) (by kernel_rfl) (rn_min2 rfl rfl rfl rfl (by omega)) (fun a61 h61 => ?_); clear h54
        refine pl_val (v := .bool (((stN (l.take k) : Nat) : Int) == ((stN l : Nat) : Int))) h61 rfl rfl rfl (by kernel_rfl) (by kernel_rfl) (by kernel_rfl) (fun a62 h62 => ?_); clear h61
        refine pl_val (v := .bool (((stN (l.take k) : Nat) : Int) == ((stN l : Nat) : Int))) h62 rfl rfl rfl (by kernel_rfl) (by kernel_rfl) (by kernel_rfl) (fun a63 h63 => ?_); clear h62
        refine pl_val (v := .bool (((stN (l.take k) : Nat) : Int) == ((stN l : Nat) : Int))) h63 rfl rfl rfl (by kernel_rfl) (by kernel_rfl) (by kernel_rfl) (fun a64 h64 => ?_); clear h63
        have hc65 : (((stN (l.take k) : Nat) : Int) == ((stN l : Nat) : Int)) = true := by first | (simp; done) | (simp; omega)
        rw [hc65] at h64; clear hc65
        refine pl_val (v := subV v 0 k 4) h64 rfl rfl rfl (by kernel_rfl) (by kernel_rfl) (by kernel_rfl) (fun a66 h66 => ?_); clear h64
        refine pl_want h66 rfl rfl rfl (op_call (args := #[subV v 0 k 4]) (R := fun res xw => res = .int .u64 (lastT (l.take k)) ∧ Below w55.heap.size w55 xw) rfl rfl rfl (by kernel_rfl) (by kernel_rfl) (Try.call34 _ _) (itemLast_any (subV v 0 k 4) (l.take k) w55 (sl_take (hs.below hB57) _ (by omega)) (fun z hz => ((fun z hz => hok z (List.mem_of_mem_take hz)) z hz).below hB57)) (by rintro e x ⟨rfl, hb69⟩; exact ⟨_, rfl, ⟨rfl, hb69⟩⟩)) ?_; clear h66
        rintro _ w68 a67 ⟨rfl, hb69⟩ h67
        have hB70 := hb_call hB57 hb69
        have hz71 := hB70.size
        have hz72 := hb69.size
        refine pl_val (v := v) h67 rfl rfl rfl (by kernel_rfl) (by kernel_rfl) (by kernel_rfl) (fun a73 h73 => ?_); clear h67
        refine pl_want h73 rfl rfl rfl (op_call (args := #[v]) (R := fun res xw => res = .int .u64 (lastT l) ∧ Below w68.heap.size w68 xw) rfl rfl rfl (by kernel_rfl) (by kernel_rfl) (Try.call34 _ _) (itemLast_any v l w68 (hs.below hB70) (fun z hz => (hok z hz).below hB70)) (by rintro e x ⟨rfl, hb76⟩; exact ⟨_, rfl, ⟨rfl, hb76⟩⟩)) ?_; clear h73
        rintro _ w75 a74 ⟨rfl, hb76⟩ h74
        have hB77 := hb_call hB70 hb76
        have hz78 := hB77.size
        have hz79 := hb76.size
        refine pl_val (v := .bool (decide (lastT (l.take k) ≤ lastT l))) h74 rfl rfl rfl (by kernel_rfl) (by kernel_rfl) (by kernel_rfl) (fun a80 h80 => ?_); clear h74
        refine pl_val (v := .bool (decide (lastT (l.take k) ≤ lastT l))) h80 rfl rfl rfl (by kernel_rfl) (by kernel_rfl) (by kernel_rfl) (fun a81 h81 => ?_); clear h80
        refine pl_val (v := .bool (decide (lastT (l.take k) ≤ lastT l))) h81 rfl rfl rfl (by kernel_rfl) (by kernel_rfl) (by kernel_rfl) (fun a82 h82 => ?_); clear h81
        have hc83 : (decide (lastT (l.take k) ≤ lastT l)) = true := decide_eq_true (by omega)
        rw [hc83] at h82; clear hc83
        refine pl_want h82 rfl rfl rfl (op_call (args := #[]) (R := fun res xw => res = .bool true ∧ Below w75.heap.size w75 xw) rfl rfl rfl (by kernel_rfl) (by kernel_rfl) (Try.call18 _ _) (awake08_any  w75 ) (by rintro e x ⟨rfl, hb86⟩; exact ⟨_, rfl, ⟨rfl, hb86⟩⟩)) ?_; clear h82
        rintro _ w85 a84 ⟨rfl, hb86⟩ h84
        have hB87 := hb_call hB77 hb86
        have hz88 := hB87.size
        have hz89 := hb86.size
        refine pl_val (v := .bool true) h84 rfl rfl rfl (by kernel_rfl) (by kernel_rfl) (by kernel_rfl) (fun a90 h90 => ?_); clear h84
        refine pl_val (v := .bool true) h90 rfl rfl rfl (by kernel_rfl) (by kernel_rfl) (by kernel_rfl) (fun a91 h91 => ?_); clear h90
        refine pl_nil ?_
        refine co_then ?_
        refine wp_ret ?_
        refine co_ret1 h91 rfl rfl ?_
        exact ⟨rfl, hB87⟩
      ·
        refine pl_val (v := .int .i64 ((k : Nat) : Int)) h54 rfl rfl rfl (by kernel_rfl) (by kernel_rfl) (rn_min1 rfl rfl rfl rfl (by omega)) (fun a92 h92 => ?_); clear h54
        refine pl_val (v := .bool (((stN (l.take k) : Nat) : Int) == ((k : Nat) : Int))) h92 rfl rfl rfl (by kernel_rfl) (by kernel_rfl) (by kernel_rfl) (fun a93 h93 => ?_); clear h92
        refine pl_val (v := .bool (((stN (l.take k) : Nat) : Int) == ((k : Nat) : Int))) h93 rfl rfl rfl (by kernel_rfl) (by kernel_rfl) (by kernel_rfl) (fun a94 h94 => ?_); clear h93
        refine pl_val (v := .bool (((stN (l.take k) : Nat) : Int) == ((k : Nat) : Int))) h94 rfl rfl rfl (by kernel_rfl) (by kernel_rfl) (by kernel_rfl) (fun a95 h95 => ?_); clear h94
        have hc96 : (((stN (l.take k) : Nat) : Int) == ((k : Nat) : Int)) = true := by first | (simp; done) | (simp; omega)
        rw [hc96] at h95; clear hc96
        refine pl_val (v := subV v 0 k 4) h95 rfl rfl rfl (by kernel_rfl) (by kernel_rfl) (by kernel_rfl) (fun a97 h97 => ?_); clear h95
        refine pl_want h97 rfl rfl rfl (op_call (args := #[subV v 0 k 4]) (R := fun res xw => res = .int .u64 (lastT (l.take k)) ∧ Below w55.heap.size w55 xw) rfl rfl rfl (by kernel_rfl) (by kernel_rfl) (Try.call34 _ _) (itemLast_any (subV v 0 k 4) (l.take k) w55 (sl_take (hs.below hB57) _ (by omega)) (fun z hz => ((fun z hz => hok z (List.mem_of_mem_take hz)) z hz).below hB57)) (by rintro e x ⟨rfl, hb100⟩; exact ⟨_, rfl, ⟨rfl, hb100⟩⟩)) ?_; clear h97
        rintro _ w99 a98 ⟨rfl, hb100⟩ h98
        have hB101 := hb_call hB57 hb100
        have hz102 := hB101.size
        have hz103 := hb100.size
        refine pl_val (v := v) h98 rfl rfl rfl (by kernel_rfl) (by kernel_rfl) (by kernel_rfl) (fun a104 h104 => ?_); clear h98
        refine pl_want h104 rfl rfl rfl (op_call (args := #[v]) (R := fun res xw => res = .int .u64 (lastT l) ∧ Below w99.heap.size w99 xw) rfl rfl rfl (by kernel_rfl) (by kernel_rfl) (Try.call34 _ _) (itemLast_any v l w99 (hs.below hB101) (fun z hz => (hok z hz).below hB101)) (by rintro e x ⟨rfl, hb107⟩; exact ⟨_, rfl, ⟨rfl, hb107⟩⟩)) ?_; clear h104
        rintro _ w106 a105 ⟨rfl, hb107⟩ h105
        have hB108 := hb_call hB101 hb107
        have hz109 := hB108.size
        have hz110 := hb107.size
        refine pl_val (v := .bool (decide (lastT (l.take k) ≤ lastT l))) h105 rfl rfl rfl (by kernel_rfl) (by kernel_rfl) (by kernel_rfl) (fun a111 h111 => ?_); clear h105
        refine pl_val (v := .bool (decide (lastT (l.take k) ≤ lastT l))) h111 rfl rfl rfl (by kernel_rfl) (by kernel_rfl) (by kernel_rfl) (fun a112 h112 => ?_); clear h111
        refine pl_val (v := .bool (decide (lastT (l.take k) ≤ lastT l))) h112 rfl rfl rfl (by kernel_rfl) (by kernel_rfl) (by kernel_rfl) (fun a113 h113 => ?_); clear h112
        have hc114 : (decide (lastT (l.take k) ≤ lastT l)) = true := decide_eq_true (by omega)
        rw [hc114] at h113; clear hc114
        refine pl_want h113 rfl rfl rfl (op_call (args := #[]) (R := fun res xw => res = .bool true ∧ Below w106.heap.size w106 xw) rfl rfl rfl (by kernel_rfl) (by kernel_rfl) (Try.call18 _ _) (awake08_any  w106 ) (by rintro e x ⟨rfl, hb117⟩; exact ⟨_, rfl, ⟨rfl, hb117⟩⟩)) ?_; clear h113
        rintro _ w116 a115 ⟨rfl, hb117⟩ h115
        have hB118 := hb_call hB108 hb117
        have hz119 := hB118.size
        have hz120 := hb117.size
        refine pl_val (v := .bool true) h115 rfl rfl rfl (by kernel_rfl) (by kernel_rfl) (by kernel_rfl) (fun a121 h121 => ?_); clear h115
        refine pl_val (v := .bool true) h121 rfl rfl rfl (by kernel_rfl) (by kernel_rfl) (by kernel_rfl) (fun a122 h122 => ?_); clear h121
        refine pl_nil ?_
        refine co_then ?_
        refine wp_ret ?_
        refine co_ret1 h122 rfl rfl ?_
        exact ⟨rfl, hB118⟩
    ·
      rw [hc22] at h21
      have hp123 : rightI l ≠ 0 := by first | simpa using hc22 | simpa [and_assoc] using hc22
      clear hc22
      refine co_true h21 rfl ?_
      refine co_seq ?_
      refine co_reg ?_
      refine pl_want h21 rfl rfl rfl (op_call (args := #[]) (R := fun res xw => res = .bool true ∧ Below w15.heap.size w15 xw) rfl rfl rfl (by kernel_rfl) (by kernel_rfl) (Try.call18 _ _) (awake08_any  w15 ) (by rintro e x ⟨rfl, hb126⟩; exact ⟨_, rfl, ⟨rfl, hb126⟩⟩)) ?_; clear h21
      rintro _ w125 a124 ⟨rfl, hb126⟩ h124
      have hB127 := hb_call hB17 hb126
      have hz128 := hB127.size
      have hz129 := hb126.size
      refine pl_val (v := .bool true) h124 rfl rfl rfl (by kernel_rfl) (by kernel_rfl) (by kernel_rfl) (fun a130 h130 => ?_); clear h124
      refine pl_nil ?_
      refine co_then ?_
      refine wp_ret ?_
      refine co_thenR ?_
      refine co_ret1 h130 rfl rfl ?_
      exact ⟨rfl, hB127⟩
  ·
    rw [hc11] at h10
    have hp131 : muchN l > 100 := of_decide_eq_true hc11
    clear hc11
    refine pl_skip h10 rfl rfl rfl (fun a132 h132 => ?_); clear h10
    refine pl_skip h132 rfl rfl rfl (fun a133 h133 => ?_); clear h132
    refine pl_skip h133 rfl rfl rfl (fun a134 h134 => ?_); clear h133
    refine pl_val (v := .bool true) h134 rfl rfl rfl (by kernel_rfl) (by kernel_rfl) (by kernel_rfl) (fun a135 h135 => ?_); clear h134
    refine pl_nil ?_
    refine co_then ?_
    refine co_true h135 rfl ?_
    refine co_seq ?_
    refine co_reg ?_
    refine pl_want h135 rfl rfl rfl (op_call (args := #[]) (R := fun res xw => res = .bool true ∧ Below w4.heap.size w4 xw) rfl rfl rfl (by kernel_rfl) (by kernel_rfl) (Try.call18 _ _) (awake08_any  w4 ) (by rintro e x ⟨rfl, hb138⟩; exact ⟨_, rfl, ⟨rfl, hb138⟩⟩)) ?_; clear h135
    rintro _ w137 a136 ⟨rfl, hb138⟩ h136
    have hB139 := hb_call hB6 hb138
    have hz140 := hB139.size
    have hz141 := hb138.size
    refine pl_val (v := .bool true) h136 rfl rfl rfl (by kernel_rfl) (by kernel_rfl) (by kernel_rfl) (fun a142 h142 => ?_); clear h136
    refine pl_nil ?_
    refine co_then ?_
    refine wp_ret ?_
    refine co_thenR ?_
    refine co_ret1 h142 rfl rfl ?_
    exact ⟨rfl, hB139⟩
theorem itemBegins_w (v : Value) (l : List EntT) (n : Int) (w : World) (hs : SliceOf entE 4 w v l) (hg : (∀ p ∈ l, EntOkS w p) ∧ l.length ≤ 2932031007403) (hn0 : (Lit.int .u8 n).wf = true) : Calls Try.prog 7 #[v, .int .u8 n] w fun e w' => e = .returned (.bool true) ∧ Below w.heap.size w w' := itemBegins_law v l n w hs (fun z hz => (hg.1 z hz).1) hg.1 hg.2 hn0
end Go.Proofs.Yteioaaegooebpaa
