/- MvccPages. Conditions: none. -/
import Derived.Test.YtfjhlckklgeokaaMvK
namespace Go.Proofs.Ytfjhlckklgeokaa
open Go.RowKit Go.PlainAid
set_option linter.unusedVariables false
set_option linter.unusedSimpArgs false

set_option maxRecDepth 100000 in
set_option maxHeartbeats 6400000 in
theorem mvccPages_law (v : Value) (l : List MActT) (t : Int) (k : ByteArray) (to : ByteArray) (n : Int) (w : World) (hs : SliceOf mactE 6 w v l) (hok : ∀ z ∈ l, MActOk w z) (ht : 0 ≤ t ∧ t < 18446744073709551616) (hn : 0 ≤ n ∧ n ≤ 255) :
    Calls Try.prog 5 #[v, .int .u64 t, .string k, .string to, .int .u8 n] w fun e w' => e = .returned (.bool true) ∧ Below w.heap.size w w' := by
 have hB0 := Below.refl w.heap.size w
 have hl_hs := sl_len hs
 by_cases hfew : Few l 40
 · skip
   refine co_enter (n := 97) Try.func5 rfl rfl rfl [(0, v), (1, .int .u64 t), (2, .string k), (3, .string to), (4, .int .u8 n)] rfl (fun a h0 => ?_)
   refine co_seq ?_
   refine co_reg ?_
   refine pk0 (v := .bool false) h0 rfl fun a1 h1 => ?_; clear h0
   refine pl_nil ?_
   refine co_then ?_
   refine co_seq ?_
   refine co_seq ?_
   refine co_reg ?_
   refine pk0 (v := v) h1 rfl fun a2 h2 => ?_; clear h1
   refine pw h2 rfl (op_call (args := #[v]) (R := fun res xw => res = .bool (decide (Few l 40)) ∧ Below w.heap.size w xw) rfl rfl rfl (by kernel_rfl) (by kernel_rfl) (Try.call8 _ _) (few16_any v l w (hs.below hB0) (fun z hz => (hok z hz).below hB0)) (by rintro e x ⟨rfl, h⟩; exact ⟨_, rfl, rfl, h⟩)) ?_; clear h2
   rintro _ w4 a3 ⟨rfl, hb5⟩ h3
   have hz6 := hb5.size
   have hc7 : (decide (Few l 40)) = true := by simp [hfew]
   rw [hc7] at h3; clear hc7
   refine pk0 (v := .bool false) h3 rfl fun a8 h8 => ?_; clear h3
   refine pl_nil ?_
   refine co_then ?_
   refine co_false h8 rfl ?_
   refine wp_skip ?_
   refine co_then ?_
   refine co_seq ?_
   refine co_reg ?_
   have hB11 := hb_call hB0 hb5
   refine pw h8 rfl (op_call (args := #[]) (R := fun res xw => ∃ N S, res = pt N 0 ∧ MvO S xw N (fun _ => []) 0 0 0 ∧ (∀ q, S q → w4.heap.size ≤ q) ∧ Below w4.heap.size w4 xw) rfl rfl rfl (by kernel_rfl) (by kernel_rfl) (Try.call10 _ _) (mvNew w4) (by rintro e x ⟨N, S, rfl, h⟩; exact ⟨_, rfl, N, S, rfl, h⟩)) ?_; clear h8
   rintro _ w10 a9 ⟨N12, S13, rfl, hO14, hlo15, hb16⟩ h9
   have hz17 := hb16.size
   have hlo18 : ∀ q, S13 q → w.heap.size ≤ q := fun q hq => by have := hlo15 q hq; omega
   refine pk0 (v := pt N12 0) h9 rfl fun a19 h19 => ?_; clear h9
   refine pl_nil ?_
   refine co_then ?_
   refine co_seq ?_
   refine co_seq ?_
   refine co_reg ?_
   refine pk0 (v := .int .i64 0) h19 rfl fun a20 h20 => ?_; clear h19
   refine pl_nil ?_
   refine co_then ?_
   refine wp_block ?_
   have hlo9 := hlo18
   have hks9 : (ksOf (fun _ => [])).length ≤ 4 * 0 := by rw [ks_0]; exact Nat.le_refl _
   have hky9 : KeyOk (fun _ => []) := keyOk_0
   have h21 : Slots 97 [(0, v), (1, .int .u64 t), (2, .string k), (3, .string to), (4, .int .u8 n), (11, pt N12 0), (12, .int .i64 0)] _ := h20.sub ⟨rfl, rfl, rfl, rfl, rfl, rfl, rfl, trivial⟩; clear h20
   refine co_loop (fun mm a x => ∃ (i : Nat) (SA : Nat → Prop) (fA : Fv) (lA : Int) (cA : Int), Slots 97 [(0, v), (1, .int .u64 t), (2, .string k), (3, .string to), (4, .int .u8 n), (11, pt N12 0), (12, .int .i64 ((i : Nat) : Int))] a ∧ mm = l.length - i ∧ (i ≤ l.length) ∧ (i ≤ 30) ∧ (∀ q, SA q → w.heap.size ≤ q) ∧ ((ksOf fA).length ≤ 4 * i) ∧ (KeyOk fA) ∧ MvO SA x N12 fA lA cA i ∧ Below w.heap.size w x) (l.length - 0) ?_ ?_
   have hB22 := hb_call hB11 hb16
   · exact ⟨0, S13, (fun _ => []), 0, 0, h21.sub ⟨rfl, rfl, rfl, rfl, rfl, rfl, (slot_eq rfl (congrArg (Value.int .i64) (by first | rfl | omega))), trivial⟩, rfl, by omega, by omega, by exact hlo9, by exact hks9, by exact hky9, hO14, hB22⟩
   · rintro k23 a24 w25 ⟨i, SA, fA, lA, cA, h24, rfl, hi26, hi27, hi28, hi29, hi30, hf31, hB32⟩
     have hz33 := hB32.size
     have hlo34 : ∀ q, SA q → w.heap.size ≤ q := by assumption
     have hksA : (ksOf fA).length ≤ 4 * i := by assumption
     have hkyA : KeyOk fA := by assumption
     refine co_seq ?_
     refine co_seq ?_
     refine co_reg ?_
     refine pk0 (v := .int .i64 ((i : Nat) : Int)) h24 rfl fun a35 h35 => ?_; clear h24
     refine pk0 (v := v) h35 rfl fun a36 h36 => ?_; clear h35
     refine pk (v := .int .i64 ((l.length : Nat) : Int)) h36 rfl (rn_len rfl rfl Try.underlying22 (hs.below hB32)) fun a37 h37 => ?_; clear h36
     refine pk0 (v := .bool (decide (((i : Nat) : Int) < ((l.length : Nat) : Int)))) h37 rfl fun a38 h38 => ?_; clear h37
     refine pk0 (v := .bool (decide (((i : Nat) : Int) < ((l.length : Nat) : Int)))) h38 rfl fun a39 h39 => ?_; clear h38
     cases hc40 : (decide (((i : Nat) : Int) < ((l.length : Nat) : Int)))
     ·
      rw [hc40] at h39
      have hp41 : ¬ (((i : Nat) : Int) < ((l.length : Nat) : Int)) := of_decide_eq_false hc40
      clear hc40
      refine psk h39 rfl fun a42 h42 => ?_; clear h39
      refine psk h42 rfl fun a43 h43 => ?_; clear h42
      refine pk0 (v := .bool false) h43 rfl fun a44 h44 => ?_; clear h43
      refine pl_nil ?_
      refine co_then ?_
      refine co_false h44 rfl ?_
      refine wp_exit ?_
      refine co_thenX ?_
      refine co_thenX ?_
      refine co_blockX ?_
      refine co_then ?_
      refine co_seq ?_
      refine co_reg ?_
      refine pk0 (v := pt N12 0) h44 rfl fun a45 h45 => ?_; clear h44
      refine pk0 (v := .string k) h45 rfl fun a46 h46 => ?_; clear h45
      refine pk0 (v := .string to) h46 rfl fun a47 h47 => ?_; clear h46
      refine pk0 (v := .int .u64 t) h47 rfl fun a48 h48 => ?_; clear h47
      have ho51 := MvO.ofS hf31
      refine pw h48 rfl (op_call (args := #[pt N12 0, .string k, .string to, .int .u64 t, .int .i64 1000]) (R := fun res xw => ∃ (ao : Option Addr) (nn cap : Nat), res = .tuple #[.slice ao nn cap, .bool (scanM (hitsF fA t k to) 1000)] ∧ xw.ownsRow w25.heap.size 51 2 (.slice ao nn cap) (scanL (hitsF fA t k to) 1000).length ((scanL (hitsF fA t k to) 1000).flatMap pairE) ∧ Below w25.heap.size w25 xw) rfl rfl rfl (by kernel_rfl) (by kernel_rfl) (Try.call20 _ _) (mvScan w25 k to t 1000 hf31 (by omega) (by omega)) (by rintro e x ⟨u, h0, h⟩; obtain ⟨ao, nn, cap, rfl⟩ := own_sliceT h.1; exact ⟨_, h0, ao, nn, cap, rfl, h⟩)) ?_; clear h48
      rintro _ w50 a49 ⟨ao52, nn53, cp54, rfl, hr55, hb56⟩ h49
      have hz57 := hb56.size
      have ho58 := MvO.ofS hf31
      refine pk0 (v := .tuple #[.slice ao52 nn53 cp54, .bool (scanM (hitsF fA t k to) 1000)]) h49 rfl fun a59 h59 => ?_; clear h49
      refine pk0 (v := .slice ao52 nn53 cp54) h59 rfl fun a60 h60 => ?_; clear h59
      refine pk0 (v := .bool (scanM (hitsF fA t k to) 1000)) h60 rfl fun a61 h61 => ?_; clear h60
      refine pk0 (v := .slice ao52 nn53 cp54) h61 rfl fun a62 h62 => ?_; clear h61
      refine pk0 (v := .bool (scanM (hitsF fA t k to) 1000)) h62 rfl fun a63 h63 => ?_; clear h62
      refine pl_nil ?_
      refine co_then ?_
      refine co_seq ?_
      refine co_reg ?_
      refine pk0 (v := .int .u8 n) h63 rfl fun a64 h64 => ?_; clear h63
      refine pk (v := .int .i64 n) h64 rfl (rn_conv rfl rfl Try.underlying5 Try.underlying3 (IntWalk.i64_in _ (by omega))) fun a65 h65 => ?_; clear h64
      obtain ⟨rm66, hrm67⟩ : ∃ z : Int, n.tmod 5 = z ∧ 0 ≤ z ∧ z < 5 := ⟨_, rfl, rem_in (by omega) (by omega)⟩
      refine pk (v := .int .i64 rm66) h65 rfl (rn_remA rfl rfl rfl (by decide) rfl hrm67.1) fun a68 h68 => ?_; clear h65
      refine pk (v := .int .i64 (1 + rm66)) h68 rfl (rn_arith rfl rfl rfl rfl rfl rfl (IntWalk.i64_in _ (by omega))) fun a69 h69 => ?_; clear h68
      refine pk0 (v := .int .i64 (1 + rm66)) h69 rfl fun a70 h70 => ?_; clear h69
      refine pl_nil ?_
      refine co_then ?_
      refine co_seq ?_
      refine co_reg ?_
      refine pk0 (v := .slice none 0 0) h70 rfl fun a71 h71 => ?_; clear h70
      refine pl_nil ?_
      refine co_then ?_
      refine co_seq ?_
      refine co_reg ?_
      refine pk0 (v := .string k) h71 rfl fun a72 h72 => ?_; clear h71
      refine pk0 (v := .string k) h72 rfl fun a73 h73 => ?_; clear h72
      refine pl_nil ?_
      refine co_then ?_
      refine co_seq ?_
      refine co_seq ?_
      refine co_reg ?_
      refine pk0 (v := .int .i64 0) h73 rfl fun a74 h74 => ?_; clear h73
      refine pl_nil ?_
      refine co_then ?_
      refine wp_block ?_
      obtain ⟨bs, hb_bs⟩ : ∃ b, b = w50.heap.size := ⟨_, rfl⟩
      have hO75 := MvO.gr hf31 (below_grown hb56) (fun k e => by cases e)
      have hofbs : ∀ q, SA q → q < bs := fun q hq => by rw [hb_bs]; exact MvO.ofS hO75 q hq
      have hubs := row_under hr55 hb_bs
      have hwbs : w.heap.size ≤ bs := by omega
      have hkA := MvO.kof hO75
      have hH := hits_len (f := fA) (t := t) (F := k) (T := to)
      have hw1 := scan_whole (H := hitsF fA t k to) (by omega)
      have hre9 : ([] : List PairT) ++ hitsF fA t k to = hitsF fA t k to := rfl
      have h76 : Slots 97 [(0, v), (1, .int .u64 t), (2, .string k), (3, .string to), (4, .int .u8 n), (11, pt N12 0), (13, .slice ao52 nn53 cp54), (15, .int .i64 (1 + rm66)), (16, .slice none 0 0), (17, .string k), (18, .int .i64 0)] _ := h74.sub ⟨rfl, rfl, rfl, rfl, rfl, rfl, rfl, rfl, rfl, rfl, rfl, trivial⟩; clear h74
      refine co_loop (fun mm a x => ∃ (j : Nat) (GA : List PairT) (fr : ByteArray) (u : Value), Slots 97 [(0, v), (1, .int .u64 t), (2, .string k), (3, .string to), (4, .int .u8 n), (11, pt N12 0), (13, .slice ao52 nn53 cp54), (15, .int .i64 (1 + rm66)), (16, u), (17, .string fr), (18, .int .i64 ((j : Nat) : Int))] a ∧ mm = 200 - j ∧ (j ≤ 200) ∧ (GA ++ hitsF fA t fr to = hitsF fA t k to) ∧ (j ≤ GA.length) ∧ MvO SA x N12 fA lA cA i ∧ x.ownsRow w25.heap.size 51 2 (.slice ao52 nn53 cp54) (scanL (hitsF fA t k to) 1000).length ((scanL (hitsF fA t k to) 1000).flatMap pairE) ∧ x.ownsRow bs 51 2 u GA.length (GA.flatMap pairE) ∧ bs ≤ x.heap.size ∧ Below w.heap.size w x) (200 - 0) ?_ ?_
      have hB77 := hb_call hB32 hb56
      · exact ⟨0, ([] : List PairT), k, (.slice none 0 0), h76.sub ⟨rfl, rfl, rfl, rfl, rfl, rfl, rfl, rfl, rfl, rfl, (slot_eq rfl (congrArg (Value.int .i64) (by first | rfl | omega))), trivial⟩, rfl, by omega, by exact hre9, by first | exact hjl9 | exact Nat.le_refl _, hO75, hr55, (row_nilL _ _ _ _ _), (Nat.le_of_eq hb_bs), hB77⟩
      · rintro k78 a79 w80 ⟨j, GA, fr, u, h79, rfl, hi81, hi82, hi83, hf84, hf85, hf86, hf87, hB88⟩
        have hz89 := hB88.size
        have hreA : GA ++ hitsF fA t fr to = hitsF fA t k to := by assumption
        have hgl9 := congrArg List.length hreA; rw [List.length_append] at hgl9
        have hsl9 := scan_lenle (H := hitsF fA t fr to) (z := 1 + rm66)
        have hgk9 : GA.length ≤ 120 := by omega
        have hsk9 : (scanL (hitsF fA t fr to) (1 + rm66)).length ≤ 120 := by omega
        refine co_seq ?_
        refine co_seq ?_
        refine co_reg ?_
        refine pk0 (v := .int .i64 ((j : Nat) : Int)) h79 rfl fun a90 h90 => ?_; clear h79
        refine pk0 (v := .bool (decide (((j : Nat) : Int) < 200))) h90 rfl fun a91 h91 => ?_; clear h90
        refine pl_nil ?_
        refine co_then ?_
        have hc92 : (decide (((j : Nat) : Int) < 200)) = true := decide_eq_true (by omega)
        rw [hc92] at h91; clear hc92
        refine co_true h91 rfl ?_
        refine wp_skip ?_
        refine co_then ?_
        refine co_seq ?_
        refine wp_block ?_
        refine co_seq ?_
        refine co_reg ?_
        refine pk0 (v := pt N12 0) h91 rfl fun a93 h93 => ?_; clear h91
        refine pk0 (v := .string fr) h93 rfl fun a94 h94 => ?_; clear h93
        refine pk0 (v := .string to) h94 rfl fun a95 h95 => ?_; clear h94
        refine pk0 (v := .int .u64 t) h95 rfl fun a96 h96 => ?_; clear h95
        refine pk0 (v := .int .i64 (1 + rm66)) h96 rfl fun a97 h97 => ?_; clear h96
        have ho100 := MvO.ofS hf84
        refine pw h97 rfl (op_call (args := #[pt N12 0, .string fr, .string to, .int .u64 t, .int .i64 (1 + rm66)]) (R := fun res xw => ∃ (ao : Option Addr) (nn cap : Nat), res = .tuple #[.slice ao nn cap, .bool (scanM (hitsF fA t fr to) (1 + rm66))] ∧ xw.ownsRow w80.heap.size 51 2 (.slice ao nn cap) (scanL (hitsF fA t fr to) (1 + rm66)).length ((scanL (hitsF fA t fr to) (1 + rm66)).flatMap pairE) ∧ Below w80.heap.size w80 xw) rfl rfl rfl (by kernel_rfl) (by kernel_rfl) (Try.call20 _ _) (mvScan w80 fr to t (1 + rm66) hf84 (by omega) (by omega)) (by rintro e x ⟨u, h0, h⟩; obtain ⟨ao, nn, cap, rfl⟩ := own_sliceT h.1; exact ⟨_, h0, ao, nn, cap, rfl, h⟩)) ?_; clear h97
        rintro _ w99 a98 ⟨ao101, nn102, cp103, rfl, hr104, hb105⟩ h98
        have hz106 := hb105.size
        have ho107 := MvO.ofS hf84
        have hzb108 := Nat.le_trans hf87 hb105.size
        have hra109 : ∀ i, (Value.slice ao101 nn102 cp103).ownBlock = some i → Value.ownBlock (.slice ao52 nn53 cp54) ≠ some i := fun i hi h1 => by have e1 := (hr104.lt i hi).1; have e2 := (hf85.lt i h1).2; omega
        have hra110 : ∀ i, (Value.slice ao101 nn102 cp103).ownBlock = some i → Value.ownBlock u ≠ some i := fun i hi h1 => by have e1 := (hr104.lt i hi).1; have e2 := (hf86.lt i h1).2; omega
        refine pk0 (v := .tuple #[.slice ao101 nn102 cp103, .bool (scanM (hitsF fA t fr to) (1 + rm66))]) h98 rfl fun a111 h111 => ?_; clear h98
        refine pk0 (v := .slice ao101 nn102 cp103) h111 rfl fun a112 h112 => ?_; clear h111
        refine pk0 (v := .bool (scanM (hitsF fA t fr to) (1 + rm66))) h112 rfl fun a113 h113 => ?_; clear h112
        refine pk0 (v := .slice ao101 nn102 cp103) h113 rfl fun a114 h114 => ?_; clear h113
        refine pk0 (v := .bool (scanM (hitsF fA t fr to) (1 + rm66))) h114 rfl fun a115 h115 => ?_; clear h114
        refine pl_nil ?_
        refine co_then ?_
        refine co_seq ?_
        refine co_reg ?_
        refine pk0 (v := u) h115 rfl fun a116 h116 => ?_; clear h115
        refine pk0 (v := .slice ao101 nn102 cp103) h116 rfl fun a117 h117 => ?_; clear h116
        have hr124 := row_kept_new hf86 (below_grown hb105)
        refine pw h117 rfl (op_appendSrc rfl bs 51 (z := .agg #[.string (⟨#[]⟩), .string (⟨#[]⟩)]) (size := 2) (bytes := 32) Try.underlying44 (by kernel_rfl) rfl rfl rfl hr124 rfl (row_sl hr104 pairE_len) (fun y hy => ⟨pairE_len y, pairE_one y⟩) (by first | omega | (simp only [List.length_nil, List.length_append, List.length_cons, List.length_take, List.length_drop]; omega)) (by first | omega | (simp only [List.length_nil, List.length_append, List.length_cons, List.length_take, List.length_drop]; omega)) (by omega)) ?_; clear h117
        rintro v120 w119 a118 ⟨hr121, hg122⟩ h118
        have hr121' : w119.ownsRow bs 51 2 v120 ((GA ++ (scanL (hitsF fA t fr to) (1 + rm66))).length) ((GA ++ (scanL (hitsF fA t fr to) (1 + rm66))).flatMap pairE) := row_app hr121; clear hr121
        have hz125 := hg122.size
        have hzb126 := Nat.le_trans hzb108 hg122.size
        refine pk0 (v := v120) h118 rfl fun a127 h127 => ?_; clear h118
        refine pl_nil ?_
        refine co_then ?_
        refine co_seq ?_
        refine co_seq ?_
        refine co_reg ?_
        refine pk0 (v := .bool (scanM (hitsF fA t fr to) (1 + rm66))) h127 rfl fun a128 h128 => ?_; clear h127
        have hB130 := hb_call hB88 hb105
        have hB131 := hb_row hB130 hr124 (by omega) hg122
        have hO132 := MvO.gr hf84 (below_grown hb105) (fun k e => by cases e)
        have hO133 := MvO.gr hO132 hg122 (fun k e => (offR_row hofbs hr124 (Nat.le_refl _)) k e)
        have hr134 := row_kept_new hf85 (below_grown hb105)
        have hr135 := row_kept_ap hr134 hr124 hubs hg122
        cases hc129 : ((scanM (hitsF fA t fr to) (1 + rm66)))
        ·
         rw [hc129] at h128
         refine pk0 (v := .bool true) h128 rfl fun a136 h136 => ?_; clear h128
         refine pl_nil ?_
         refine co_then ?_
         refine co_true h136 rfl ?_
         refine co_seq ?_
         refine co_reg ?_
         refine pk0 (v := v120) h136 rfl fun a137 h137 => ?_; clear h136
         refine pk0 (v := .slice ao52 nn53 cp54) h137 rfl fun a138 h138 => ?_; clear h137
         refine pw h138 rfl (op_call (args := #[v120, .slice ao52 nn53 cp54]) (R := fun res xw => res = .bool true ∧ Below w119.heap.size w119 xw) rfl rfl rfl (by kernel_rfl) (by kernel_rfl) (Try.call21 _ _) (rsamePairs_any v120 (GA ++ (scanL (hitsF fA t fr to) (1 + rm66))) (.slice ao52 nn53 cp54) (scanL (hitsF fA t k to) 1000) w119 (row_sl hr121' pairE_len) (row_sl hr135 pairE_len)) (by rintro e x ⟨h0, h⟩; rw [(show GA ++ (scanL (hitsF fA t fr to) (1 + rm66)) = (scanL (hitsF fA t k to) 1000) from by rw [scan_last (by first | assumption | simpa using (by assumption)), hw1]; exact hreA), sameP_refl] at h0; exact ⟨_, h0, rfl, h⟩)) ?_; clear h138
         rintro _ w140 a139 ⟨rfl, hb141⟩ h139
         have hz142 := hb141.size
         have ho143 := MvO.ofS hO133
         have hzb144 := Nat.le_trans hzb126 hb141.size
         refine pk0 (v := .bool true) h139 rfl fun a145 h145 => ?_; clear h139
         have hB148 := hb_call hB131 hb141
         have hr149 := row_kept_off hr104 hra110 hg122
         have hr150 := row_kept_new hr149 (below_grown hb141)
         refine pw h145 rfl (op_call (args := #[]) (R := fun res xw => res = .bool true ∧ Below w140.heap.size w140 xw) rfl rfl rfl (by kernel_rfl) (by kernel_rfl) (Try.call9 _ _) (awake16 w140) (by rintro e x ⟨rfl, h⟩; exact ⟨_, rfl, rfl, h⟩)) ?_; clear h145
         rintro _ w147 a146 ⟨rfl, hb151⟩ h146
         have hz152 := hb151.size
         have hO154 := MvO.gr hO133 (below_grown hb141) (fun k e => by cases e)
         have ho153 := MvO.ofS hO154
         have hzb155 := Nat.le_trans hzb144 hb151.size
         refine pk0 (v := .bool true) h146 rfl fun a156 h156 => ?_; clear h146
         refine pk0 (v := .bool true) h156 rfl fun a157 h157 => ?_; clear h156
         refine pl_nil ?_
         refine co_then ?_
         refine wp_ret ?_
         refine co_thenR ?_
         refine co_blockR ?_
         refine co_thenR ?_
         refine co_thenR ?_
         refine co_blockR ?_
         refine co_thenR ?_
         refine co_ret1 h157 rfl rfl ?_
         have hB158 := hb_call hB148 hb151
         exact ⟨rfl, hB158⟩
        ·
         rw [hc129] at h128
         refine pk0 (v := .bool false) h128 rfl fun a159 h159 => ?_; clear h128
         refine pl_nil ?_
         refine co_then ?_
         refine co_false h159 rfl ?_
         refine wp_skip ?_
         refine co_then ?_
         refine co_seq ?_
         refine co_seq ?_
         refine co_reg ?_
         refine pk0 (v := .slice ao101 nn102 cp103) h159 rfl fun a160 h160 => ?_; clear h159
         have hr161 := row_kept_off hr104 hra110 hg122
         refine pk (v := .int .i64 (((scanL (hitsF fA t fr to) (1 + rm66)).length : Nat) : Int)) h160 rfl (rn_lenOwn rfl rfl Try.underlying44 hr161) fun a162 h162 => ?_; clear h160
         refine pk0 (v := .int .i64 (1 + rm66)) h162 rfl fun a163 h163 => ?_; clear h162
         refine pk0 (v := .bool ((((scanL (hitsF fA t fr to) (1 + rm66)).length : Nat) : Int) != 1 + rm66)) h163 rfl fun a164 h164 => ?_; clear h163
         refine pl_nil ?_
         refine co_then ?_
         cases hc165 : ((((scanL (hitsF fA t fr to) (1 + rm66)).length : Nat) : Int) != 1 + rm66)
         ·
          rw [hc165] at h164
          have hp166 : ¬ ((((scanL (hitsF fA t fr to) (1 + rm66)).length : Nat) : Int) ≠ 1 + rm66) := by first | simpa using hc165 | simpa [and_assoc] using hc165
          clear hc165
          refine co_false h164 rfl ?_
          refine wp_skip ?_
          refine co_then ?_
          refine co_reg ?_
          refine pk0 (v := .slice ao101 nn102 cp103) h164 rfl fun a167 h167 => ?_; clear h164
          refine pk0 (v := .slice ao101 nn102 cp103) h167 rfl fun a168 h168 => ?_; clear h167
          refine pk (v := .int .i64 (((scanL (hitsF fA t fr to) (1 + rm66)).length : Nat) : Int)) h168 rfl (rn_lenOwn rfl rfl Try.underlying44 hr161) fun a169 h169 => ?_; clear h168
          refine pk (v := .int .i64 ((((scanL (hitsF fA t fr to) (1 + rm66)).length : Nat) : Int) - 1)) h169 rfl (rn_arith rfl rfl rfl rfl rfl rfl (IntWalk.i64_in _ (by omega))) fun a170 h170 => ?_; clear h169
          obtain ⟨y171, hy171⟩ : ∃ z, (scanL (hitsF fA t fr to) (1 + rm66))[((((scanL (hitsF fA t fr to) (1 + rm66)).length : Nat) : Int) - 1).toNat]? = some z := ⟨_, List.getElem?_eq_getElem (by first | omega | (simp; done) | (simp; omega))⟩
          refine pk (v := pt (blkOf (.slice ao101 nn102 cp103)) (offOf (.slice ao101 nn102 cp103) + (((((scanL (hitsF fA t fr to) (1 + rm66)).length : Nat) : Int) - 1).toNat) * 2)) h170 rfl (rn_index rfl rfl rfl Try.underlying44 Try.sizeOf51 (row_sl hr161 pairE_len) (by omega) (by first | omega | (simp; done) | (simp; omega))) fun a172 h172 => ?_; clear h170
          refine pk0 (v := pt (blkOf (.slice ao101 nn102 cp103)) (offOf (.slice ao101 nn102 cp103) + (((((scanL (hitsF fA t fr to) (1 + rm66)).length : Nat) : Int) - 1).toNat) * 2)) h172 rfl fun a173 h173 => ?_; clear h172
          refine pk (v := .string y171.1) h173 rfl (rn_load1 rfl rfl Try.isAgg9 ((sl_at (row_sl hr161 pairE_len) hy171) 0 _ rfl)) fun a174 h174 => ?_; clear h173
          have hsz9 := hits_key hkyA hkA (List.mem_of_mem_take (List.mem_of_getElem? hy171))
          refine pw h174 rfl (op_call (args := #[.string y171.1]) (R := fun res xw => res = .string (nextB y171.1) ∧ Below w119.heap.size w119 xw) rfl rfl rfl (by kernel_rfl) (by kernel_rfl) (Try.call22 _ _) (rnext_any y171.1 w119 (by omega)) (by rintro e x ⟨rfl, h⟩; exact ⟨_, rfl, rfl, h⟩)) ?_; clear h174
          rintro _ w176 a175 ⟨rfl, hb177⟩ h175
          have hz178 := hb177.size
          have ho179 := MvO.ofS hO133
          have hzb180 := Nat.le_trans hzb126 hb177.size
          refine pk0 (v := .string (nextB y171.1)) h175 rfl fun a181 h181 => ?_; clear h175
          refine pl_nil ?_
          refine co_blockN ?_
          refine co_then ?_
          refine co_reg ?_
          refine pk0 (v := .int .i64 ((j : Nat) : Int)) h181 rfl fun a182 h182 => ?_; clear h181
          refine pk (v := .int .i64 ((j + 1 : Nat) : Int)) h182 rfl (rn_arith' rfl rfl rfl rfl rfl rfl (IntWalk.i64_in _ (by omega)) (by omega)) fun a183 h183 => ?_; clear h182
          refine pk0 (v := .int .i64 ((j + 1 : Nat) : Int)) h183 rfl fun a184 h184 => ?_; clear h183
          refine pl_nil ?_
          refine co_then ?_
          refine ⟨(200 - (j + 1)), by omega, ?_⟩
          have hpg := pageF (z := 1 + rm66) hkyA hkA (by omega) (by first | assumption | simpa using (by assumption)) (y := y171) (by rw [show (1 + rm66).toNat - 1 = ((((scanL (hitsF fA t fr to) (1 + rm66)).length : Nat) : Int) - 1).toNat from by omega]; exact hy171)
          have hre9 : (GA ++ (scanL (hitsF fA t fr to) (1 + rm66))) ++ hitsF fA t (nextB y171.1) to = hitsF fA t k to := by rw [List.append_assoc, ← hpg.1]; exact hreA
          have hjl9 : j + 1 ≤ (GA ++ (scanL (hitsF fA t fr to) (1 + rm66))).length := by rw [List.length_append, hpg.2]; omega
          have hO185 := MvO.gr hO133 (below_grown hb177) (fun k e => by cases e)
          have hr186 := row_kept_new hr135 (below_grown hb177)
          have hr187 := row_kept_new hr121' (below_grown hb177)
          have hB188 := hb_call hB131 hb177
          exact ⟨j + 1, (GA ++ (scanL (hitsF fA t fr to) (1 + rm66))), (nextB y171.1), v120, h184.sub ⟨rfl, rfl, rfl, rfl, rfl, rfl, rfl, rfl, rfl, rfl, rfl, trivial⟩, rfl, by omega, by exact hre9, by first | exact hjl9 | exact Nat.le_refl _, hO185, hr186, (row_eq hr187 (rfl)), hzb180, hB188⟩
         ·
          rw [hc165] at h164
          have hp189 : (((scanL (hitsF fA t fr to) (1 + rm66)).length : Nat) : Int) ≠ 1 + rm66 := by first | simpa using hc165 | simpa [and_assoc] using hc165
          clear hc165
          refine co_true h164 rfl ?_
          refine co_seq ?_
          refine co_reg ?_
          refine pk0 (v := .bool false) h164 rfl fun a190 h190 => ?_; clear h164
          refine pl_nil ?_
          refine co_then ?_
          refine wp_ret ?_
          refine co_thenR ?_
          refine co_blockR ?_
          refine co_thenR ?_
          refine co_thenR ?_
          refine co_blockR ?_
          refine co_thenR ?_
          refine co_ret1 h190 rfl rfl ?_
          exfalso
          first | (have h9 := scan_len (H := hitsF fA t fr to) (by first | assumption | simpa using (by assumption)) (by omega); omega) | omega
     ·
      rw [hc40] at h39
      have hp191 : ((i : Nat) : Int) < ((l.length : Nat) : Int) := of_decide_eq_true hc40
      clear hc40
      refine pk0 (v := .int .i64 ((i : Nat) : Int)) h39 rfl fun a192 h192 => ?_; clear h39
      refine pk0 (v := .bool (decide (((i : Nat) : Int) < 30))) h192 rfl fun a193 h193 => ?_; clear h192
      refine pk0 (v := .bool (decide (((i : Nat) : Int) < 30))) h193 rfl fun a194 h194 => ?_; clear h193
      refine pl_nil ?_
      refine co_then ?_
      cases hc195 : (decide (((i : Nat) : Int) < 30))
      ·
       rw [hc195] at h194
       have hp196 : ¬ (((i : Nat) : Int) < 30) := of_decide_eq_false hc195
       clear hc195
       refine co_false h194 rfl ?_
       refine wp_exit ?_
       refine co_thenX ?_
       refine co_thenX ?_
       refine co_blockX ?_
       refine co_then ?_
       refine co_seq ?_
       refine co_reg ?_
       refine pk0 (v := pt N12 0) h194 rfl fun a197 h197 => ?_; clear h194
       refine pk0 (v := .string k) h197 rfl fun a198 h198 => ?_; clear h197
       refine pk0 (v := .string to) h198 rfl fun a199 h199 => ?_; clear h198
       refine pk0 (v := .int .u64 t) h199 rfl fun a200 h200 => ?_; clear h199
       have ho203 := MvO.ofS hf31
       refine pw h200 rfl (op_call (args := #[pt N12 0, .string k, .string to, .int .u64 t, .int .i64 1000]) (R := fun res xw => ∃ (ao : Option Addr) (nn cap : Nat), res = .tuple #[.slice ao nn cap, .bool (scanM (hitsF fA t k to) 1000)] ∧ xw.ownsRow w25.heap.size 51 2 (.slice ao nn cap) (scanL (hitsF fA t k to) 1000).length ((scanL (hitsF fA t k to) 1000).flatMap pairE) ∧ Below w25.heap.size w25 xw) rfl rfl rfl (by kernel_rfl) (by kernel_rfl) (Try.call20 _ _) (mvScan w25 k to t 1000 hf31 (by omega) (by omega)) (by rintro e x ⟨u, h0, h⟩; obtain ⟨ao, nn, cap, rfl⟩ := own_sliceT h.1; exact ⟨_, h0, ao, nn, cap, rfl, h⟩)) ?_; clear h200
       rintro _ w202 a201 ⟨ao204, nn205, cp206, rfl, hr207, hb208⟩ h201
       have hz209 := hb208.size
       have ho210 := MvO.ofS hf31
       refine pk0 (v := .tuple #[.slice ao204 nn205 cp206, .bool (scanM (hitsF fA t k to) 1000)]) h201 rfl fun a211 h211 => ?_; clear h201
       refine pk0 (v := .slice ao204 nn205 cp206) h211 rfl fun a212 h212 => ?_; clear h211
       refine pk0 (v := .bool (scanM (hitsF fA t k to) 1000)) h212 rfl fun a213 h213 => ?_; clear h212
       refine pk0 (v := .slice ao204 nn205 cp206) h213 rfl fun a214 h214 => ?_; clear h213
       refine pk0 (v := .bool (scanM (hitsF fA t k to) 1000)) h214 rfl fun a215 h215 => ?_; clear h214
       refine pl_nil ?_
       refine co_then ?_
       refine co_seq ?_
       refine co_reg ?_
       refine pk0 (v := .int .u8 n) h215 rfl fun a216 h216 => ?_; clear h215
       refine pk (v := .int .i64 n) h216 rfl (rn_conv rfl rfl Try.underlying5 Try.underlying3 (IntWalk.i64_in _ (by omega))) fun a217 h217 => ?_; clear h216
       obtain ⟨rm218, hrm219⟩ : ∃ z : Int, n.tmod 5 = z ∧ 0 ≤ z ∧ z < 5 := ⟨_, rfl, rem_in (by omega) (by omega)⟩
       refine pk (v := .int .i64 rm218) h217 rfl (rn_remA rfl rfl rfl (by decide) rfl hrm219.1) fun a220 h220 => ?_; clear h217
       refine pk (v := .int .i64 (1 + rm218)) h220 rfl (rn_arith rfl rfl rfl rfl rfl rfl (IntWalk.i64_in _ (by omega))) fun a221 h221 => ?_; clear h220
       refine pk0 (v := .int .i64 (1 + rm218)) h221 rfl fun a222 h222 => ?_; clear h221
       refine pl_nil ?_
       refine co_then ?_
       refine co_seq ?_
       refine co_reg ?_
       refine pk0 (v := .slice none 0 0) h222 rfl fun a223 h223 => ?_; clear h222
       refine pl_nil ?_
       refine co_then ?_
       refine co_seq ?_
       refine co_reg ?_
       refine pk0 (v := .string k) h223 rfl fun a224 h224 => ?_; clear h223
       refine pk0 (v := .string k) h224 rfl fun a225 h225 => ?_; clear h224
       refine pl_nil ?_
       refine co_then ?_
       refine co_seq ?_
       refine co_seq ?_
       refine co_reg ?_
       refine pk0 (v := .int .i64 0) h225 rfl fun a226 h226 => ?_; clear h225
       refine pl_nil ?_
       refine co_then ?_
       refine wp_block ?_
       obtain ⟨bs, hb_bs⟩ : ∃ b, b = w202.heap.size := ⟨_, rfl⟩
       have hO227 := MvO.gr hf31 (below_grown hb208) (fun k e => by cases e)
       have hofbs : ∀ q, SA q → q < bs := fun q hq => by rw [hb_bs]; exact MvO.ofS hO227 q hq
       have hubs := row_under hr207 hb_bs
       have hwbs : w.heap.size ≤ bs := by omega
       have hkA := MvO.kof hO227
       have hH := hits_len (f := fA) (t := t) (F := k) (T := to)
       have hw1 := scan_whole (H := hitsF fA t k to) (by omega)
       have hre9 : ([] : List PairT) ++ hitsF fA t k to = hitsF fA t k to := rfl
       have h228 : Slots 97 [(0, v), (1, .int .u64 t), (2, .string k), (3, .string to), (4, .int .u8 n), (11, pt N12 0), (13, .slice ao204 nn205 cp206), (15, .int .i64 (1 + rm218)), (16, .slice none 0 0), (17, .string k), (18, .int .i64 0)] _ := h226.sub ⟨rfl, rfl, rfl, rfl, rfl, rfl, rfl, rfl, rfl, rfl, rfl, trivial⟩; clear h226
       refine co_loop (fun mm a x => ∃ (j : Nat) (GA : List PairT) (fr : ByteArray) (u : Value), Slots 97 [(0, v), (1, .int .u64 t), (2, .string k), (3, .string to), (4, .int .u8 n), (11, pt N12 0), (13, .slice ao204 nn205 cp206), (15, .int .i64 (1 + rm218)), (16, u), (17, .string fr), (18, .int .i64 ((j : Nat) : Int))] a ∧ mm = 200 - j ∧ (j ≤ 200) ∧ (GA ++ hitsF fA t fr to = hitsF fA t k to) ∧ (j ≤ GA.length) ∧ MvO SA x N12 fA lA cA i ∧ x.ownsRow w25.heap.size 51 2 (.slice ao204 nn205 cp206) (scanL (hitsF fA t k to) 1000).length ((scanL (hitsF fA t k to) 1000).flatMap pairE) ∧ x.ownsRow bs 51 2 u GA.length (GA.flatMap pairE) ∧ bs ≤ x.heap.size ∧ Below w.heap.size w x) (200 - 0) ?_ ?_
       have hB229 := hb_call hB32 hb208
       · exact ⟨0, ([] : List PairT), k, (.slice none 0 0), h228.sub ⟨rfl, rfl, rfl, rfl, rfl, rfl, rfl, rfl, rfl, rfl, (slot_eq rfl (congrArg (Value.int .i64) (by first | rfl | omega))), trivial⟩, rfl, by omega, by exact hre9, by first | exact hjl9 | exact Nat.le_refl _, hO227, hr207, (row_nilL _ _ _ _ _), (Nat.le_of_eq hb_bs), hB229⟩
       · rintro k230 a231 w232 ⟨j, GA, fr, u, h231, rfl, hi233, hi234, hi235, hf236, hf237, hf238, hf239, hB240⟩
         have hz241 := hB240.size
         have hreA : GA ++ hitsF fA t fr to = hitsF fA t k to := by assumption
         have hgl9 := congrArg List.length hreA; rw [List.length_append] at hgl9
         have hsl9 := scan_lenle (H := hitsF fA t fr to) (z := 1 + rm218)
         have hgk9 : GA.length ≤ 120 := by omega
         have hsk9 : (scanL (hitsF fA t fr to) (1 + rm218)).length ≤ 120 := by omega
         refine co_seq ?_
         refine co_seq ?_
         refine co_reg ?_
         refine pk0 (v := .int .i64 ((j : Nat) : Int)) h231 rfl fun a242 h242 => ?_; clear h231
         refine pk0 (v := .bool (decide (((j : Nat) : Int) < 200))) h242 rfl fun a243 h243 => ?_; clear h242
         refine pl_nil ?_
         refine co_then ?_
         have hc244 : (decide (((j : Nat) : Int) < 200)) = true := decide_eq_true (by omega)
         rw [hc244] at h243; clear hc244
         refine co_true h243 rfl ?_
         refine wp_skip ?_
         refine co_then ?_
         refine co_seq ?_
         refine wp_block ?_
         refine co_seq ?_
         refine co_reg ?_
         refine pk0 (v := pt N12 0) h243 rfl fun a245 h245 => ?_; clear h243
         refine pk0 (v := .string fr) h245 rfl fun a246 h246 => ?_; clear h245
         refine pk0 (v := .string to) h246 rfl fun a247 h247 => ?_; clear h246
         refine pk0 (v := .int .u64 t) h247 rfl fun a248 h248 => ?_; clear h247
         refine pk0 (v := .int .i64 (1 + rm218)) h248 rfl fun a249 h249 => ?_; clear h248
         have ho252 := MvO.ofS hf236
         refine pw h249 rfl (op_call (args := #[pt N12 0, .string fr, .string to, .int .u64 t, .int .i64 (1 + rm218)]) (R := fun res xw => ∃ (ao : Option Addr) (nn cap : Nat), res = .tuple #[.slice ao nn cap, .bool (scanM (hitsF fA t fr to) (1 + rm218))] ∧ xw.ownsRow w232.heap.size 51 2 (.slice ao nn cap) (scanL (hitsF fA t fr to) (1 + rm218)).length ((scanL (hitsF fA t fr to) (1 + rm218)).flatMap pairE) ∧ Below w232.heap.size w232 xw) rfl rfl rfl (by kernel_rfl) (by kernel_rfl) (Try.call20 _ _) (mvScan w232 fr to t (1 + rm218) hf236 (by omega) (by omega)) (by rintro e x ⟨u, h0, h⟩; obtain ⟨ao, nn, cap, rfl⟩ := own_sliceT h.1; exact ⟨_, h0, ao, nn, cap, rfl, h⟩)) ?_; clear h249
         rintro _ w251 a250 ⟨ao253, nn254, cp255, rfl, hr256, hb257⟩ h250
         have hz258 := hb257.size
         have ho259 := MvO.ofS hf236
         have hzb260 := Nat.le_trans hf239 hb257.size
         have hra261 : ∀ i, (Value.slice ao253 nn254 cp255).ownBlock = some i → Value.ownBlock (.slice ao204 nn205 cp206) ≠ some i := fun i hi h1 => by have e1 := (hr256.lt i hi).1; have e2 := (hf237.lt i h1).2; omega
         have hra262 : ∀ i, (Value.slice ao253 nn254 cp255).ownBlock = some i → Value.ownBlock u ≠ some i := fun i hi h1 => by have e1 := (hr256.lt i hi).1; have e2 := (hf238.lt i h1).2; omega
         refine pk0 (v := .tuple #[.slice ao253 nn254 cp255, .bool (scanM (hitsF fA t fr to) (1 + rm218))]) h250 rfl fun a263 h263 => ?_; clear h250
         refine pk0 (v := .slice ao253 nn254 cp255) h263 rfl fun a264 h264 => ?_; clear h263
         refine pk0 (v := .bool (scanM (hitsF fA t fr to) (1 + rm218))) h264 rfl fun a265 h265 => ?_; clear h264
         refine pk0 (v := .slice ao253 nn254 cp255) h265 rfl fun a266 h266 => ?_; clear h265
         refine pk0 (v := .bool (scanM (hitsF fA t fr to) (1 + rm218))) h266 rfl fun a267 h267 => ?_; clear h266
         refine pl_nil ?_
         refine co_then ?_
         refine co_seq ?_
         refine co_reg ?_
         refine pk0 (v := u) h267 rfl fun a268 h268 => ?_; clear h267
         refine pk0 (v := .slice ao253 nn254 cp255) h268 rfl fun a269 h269 => ?_; clear h268
         have hr276 := row_kept_new hf238 (below_grown hb257)
         refine pw h269 rfl (op_appendSrc rfl bs 51 (z := .agg #[.string (⟨#[]⟩), .string (⟨#[]⟩)]) (size := 2) (bytes := 32) Try.underlying44 (by kernel_rfl) rfl rfl rfl hr276 rfl (row_sl hr256 pairE_len) (fun y hy => ⟨pairE_len y, pairE_one y⟩) (by first | omega | (simp only [List.length_nil, List.length_append, List.length_cons, List.length_take, List.length_drop]; omega)) (by first | omega | (simp only [List.length_nil, List.length_append, List.length_cons, List.length_take, List.length_drop]; omega)) (by omega)) ?_; clear h269
         rintro v272 w271 a270 ⟨hr273, hg274⟩ h270
         have hr273' : w271.ownsRow bs 51 2 v272 ((GA ++ (scanL (hitsF fA t fr to) (1 + rm218))).length) ((GA ++ (scanL (hitsF fA t fr to) (1 + rm218))).flatMap pairE) := row_app hr273; clear hr273
         have hz277 := hg274.size
         have hzb278 := Nat.le_trans hzb260 hg274.size
         refine pk0 (v := v272) h270 rfl fun a279 h279 => ?_; clear h270
         refine pl_nil ?_
         refine co_then ?_
         refine co_seq ?_
         refine co_seq ?_
         refine co_reg ?_
         refine pk0 (v := .bool (scanM (hitsF fA t fr to) (1 + rm218))) h279 rfl fun a280 h280 => ?_; clear h279
         have hB282 := hb_call hB240 hb257
         have hB283 := hb_row hB282 hr276 (by omega) hg274
         have hO284 := MvO.gr hf236 (below_grown hb257) (fun k e => by cases e)
         have hO285 := MvO.gr hO284 hg274 (fun k e => (offR_row hofbs hr276 (Nat.le_refl _)) k e)
         have hr286 := row_kept_new hf237 (below_grown hb257)
         have hr287 := row_kept_ap hr286 hr276 hubs hg274
         cases hc281 : ((scanM (hitsF fA t fr to) (1 + rm218)))
         ·
          rw [hc281] at h280
          refine pk0 (v := .bool true) h280 rfl fun a288 h288 => ?_; clear h280
          refine pl_nil ?_
          refine co_then ?_
          refine co_true h288 rfl ?_
          refine co_seq ?_
          refine co_reg ?_
          refine pk0 (v := v272) h288 rfl fun a289 h289 => ?_; clear h288
          refine pk0 (v := .slice ao204 nn205 cp206) h289 rfl fun a290 h290 => ?_; clear h289
          refine pw h290 rfl (op_call (args := #[v272, .slice ao204 nn205 cp206]) (R := fun res xw => res = .bool true ∧ Below w271.heap.size w271 xw) rfl rfl rfl (by kernel_rfl) (by kernel_rfl) (Try.call21 _ _) (rsamePairs_any v272 (GA ++ (scanL (hitsF fA t fr to) (1 + rm218))) (.slice ao204 nn205 cp206) (scanL (hitsF fA t k to) 1000) w271 (row_sl hr273' pairE_len) (row_sl hr287 pairE_len)) (by rintro e x ⟨h0, h⟩; rw [(show GA ++ (scanL (hitsF fA t fr to) (1 + rm218)) = (scanL (hitsF fA t k to) 1000) from by rw [scan_last (by first | assumption | simpa using (by assumption)), hw1]; exact hreA), sameP_refl] at h0; exact ⟨_, h0, rfl, h⟩)) ?_; clear h290
          rintro _ w292 a291 ⟨rfl, hb293⟩ h291
          have hz294 := hb293.size
          have ho295 := MvO.ofS hO285
          have hzb296 := Nat.le_trans hzb278 hb293.size
          refine pk0 (v := .bool true) h291 rfl fun a297 h297 => ?_; clear h291
          have hB300 := hb_call hB283 hb293
          have hr301 := row_kept_off hr256 hra262 hg274
          have hr302 := row_kept_new hr301 (below_grown hb293)
          refine pw h297 rfl (op_call (args := #[]) (R := fun res xw => res = .bool true ∧ Below w292.heap.size w292 xw) rfl rfl rfl (by kernel_rfl) (by kernel_rfl) (Try.call9 _ _) (awake16 w292) (by rintro e x ⟨rfl, h⟩; exact ⟨_, rfl, rfl, h⟩)) ?_; clear h297
          rintro _ w299 a298 ⟨rfl, hb303⟩ h298
          have hz304 := hb303.size
          have hO306 := MvO.gr hO285 (below_grown hb293) (fun k e => by cases e)
          have ho305 := MvO.ofS hO306
          have hzb307 := Nat.le_trans hzb296 hb303.size
          refine pk0 (v := .bool true) h298 rfl fun a308 h308 => ?_; clear h298
          refine pk0 (v := .bool true) h308 rfl fun a309 h309 => ?_; clear h308
          refine pl_nil ?_
          refine co_then ?_
          refine wp_ret ?_
          refine co_thenR ?_
          refine co_blockR ?_
          refine co_thenR ?_
          refine co_thenR ?_
          refine co_blockR ?_
          refine co_thenR ?_
          refine co_ret1 h309 rfl rfl ?_
          have hB310 := hb_call hB300 hb303
          exact ⟨rfl, hB310⟩
         ·
          rw [hc281] at h280
          refine pk0 (v := .bool false) h280 rfl fun a311 h311 => ?_; clear h280
          refine pl_nil ?_
          refine co_then ?_
          refine co_false h311 rfl ?_
          refine wp_skip ?_
          refine co_then ?_
          refine co_seq ?_
          refine co_seq ?_
          refine co_reg ?_
          refine pk0 (v := .slice ao253 nn254 cp255) h311 rfl fun a312 h312 => ?_; clear h311
          have hr313 := row_kept_off hr256 hra262 hg274
          refine pk (v := .int .i64 (((scanL (hitsF fA t fr to) (1 + rm218)).length : Nat) : Int)) h312 rfl (rn_lenOwn rfl rfl Try.underlying44 hr313) fun a314 h314 => ?_; clear h312
          refine pk0 (v := .int .i64 (1 + rm218)) h314 rfl fun a315 h315 => ?_; clear h314
          refine pk0 (v := .bool ((((scanL (hitsF fA t fr to) (1 + rm218)).length : Nat) : Int) != 1 + rm218)) h315 rfl fun a316 h316 => ?_; clear h315
          refine pl_nil ?_
          refine co_then ?_
          cases hc317 : ((((scanL (hitsF fA t fr to) (1 + rm218)).length : Nat) : Int) != 1 + rm218)
          ·
           rw [hc317] at h316
           have hp318 : ¬ ((((scanL (hitsF fA t fr to) (1 + rm218)).length : Nat) : Int) ≠ 1 + rm218) := by first | simpa using hc317 | simpa [and_assoc] using hc317
           clear hc317
           refine co_false h316 rfl ?_
           refine wp_skip ?_
           refine co_then ?_
           refine co_reg ?_
           refine pk0 (v := .slice ao253 nn254 cp255) h316 rfl fun a319 h319 => ?_; clear h316
           refine pk0 (v := .slice ao253 nn254 cp255) h319 rfl fun a320 h320 => ?_; clear h319
           refine pk (v := .int .i64 (((scanL (hitsF fA t fr to) (1 + rm218)).length : Nat) : Int)) h320 rfl (rn_lenOwn rfl rfl Try.underlying44 hr313) fun a321 h321 => ?_; clear h320
           refine pk (v := .int .i64 ((((scanL (hitsF fA t fr to) (1 + rm218)).length : Nat) : Int) - 1)) h321 rfl (rn_arith rfl rfl rfl rfl rfl rfl (IntWalk.i64_in _ (by omega))) fun a322 h322 => ?_; clear h321
           obtain ⟨y323, hy323⟩ : ∃ z, (scanL (hitsF fA t fr to) (1 + rm218))[((((scanL (hitsF fA t fr to) (1 + rm218)).length : Nat) : Int) - 1).toNat]? = some z := ⟨_, List.getElem?_eq_getElem (by first | omega | (simp; done) | (simp; omega))⟩
           refine pk (v := pt (blkOf (.slice ao253 nn254 cp255)) (offOf (.slice ao253 nn254 cp255) + (((((scanL (hitsF fA t fr to) (1 + rm218)).length : Nat) : Int) - 1).toNat) * 2)) h322 rfl (rn_index rfl rfl rfl Try.underlying44 Try.sizeOf51 (row_sl hr313 pairE_len) (by omega) (by first | omega | (simp; done) | (simp; omega))) fun a324 h324 => ?_; clear h322
           refine pk0 (v := pt (blkOf (.slice ao253 nn254 cp255)) (offOf (.slice ao253 nn254 cp255) + (((((scanL (hitsF fA t fr to) (1 + rm218)).length : Nat) : Int) - 1).toNat) * 2)) h324 rfl fun a325 h325 => ?_; clear h324
           refine pk (v := .string y323.1) h325 rfl (rn_load1 rfl rfl Try.isAgg9 ((sl_at (row_sl hr313 pairE_len) hy323) 0 _ rfl)) fun a326 h326 => ?_; clear h325
           have hsz9 := hits_key hkyA hkA (List.mem_of_mem_take (List.mem_of_getElem? hy323))
           refine pw h326 rfl (op_call (args := #[.string y323.1]) (R := fun res xw => res = .string (nextB y323.1) ∧ Below w271.heap.size w271 xw) rfl rfl rfl (by kernel_rfl) (by kernel_rfl) (Try.call22 _ _) (rnext_any y323.1 w271 (by omega)) (by rintro e x ⟨rfl, h⟩; exact ⟨_, rfl, rfl, h⟩)) ?_; clear h326
           rintro _ w328 a327 ⟨rfl, hb329⟩ h327
           have hz330 := hb329.size
           have ho331 := MvO.ofS hO285
           have hzb332 := Nat.le_trans hzb278 hb329.size
           refine pk0 (v := .string (nextB y323.1)) h327 rfl fun a333 h333 => ?_; clear h327
           refine pl_nil ?_
           refine co_blockN ?_
           refine co_then ?_
           refine co_reg ?_
           refine pk0 (v := .int .i64 ((j : Nat) : Int)) h333 rfl fun a334 h334 => ?_; clear h333
           refine pk (v := .int .i64 ((j + 1 : Nat) : Int)) h334 rfl (rn_arith' rfl rfl rfl rfl rfl rfl (IntWalk.i64_in _ (by omega)) (by omega)) fun a335 h335 => ?_; clear h334
           refine pk0 (v := .int .i64 ((j + 1 : Nat) : Int)) h335 rfl fun a336 h336 => ?_; clear h335
           refine pl_nil ?_
           refine co_then ?_
           refine ⟨(200 - (j + 1)), by omega, ?_⟩
           have hpg := pageF (z := 1 + rm218) hkyA hkA (by omega) (by first | assumption | simpa using (by assumption)) (y := y323) (by rw [show (1 + rm218).toNat - 1 = ((((scanL (hitsF fA t fr to) (1 + rm218)).length : Nat) : Int) - 1).toNat from by omega]; exact hy323)
           have hre9 : (GA ++ (scanL (hitsF fA t fr to) (1 + rm218))) ++ hitsF fA t (nextB y323.1) to = hitsF fA t k to := by rw [List.append_assoc, ← hpg.1]; exact hreA
           have hjl9 : j + 1 ≤ (GA ++ (scanL (hitsF fA t fr to) (1 + rm218))).length := by rw [List.length_append, hpg.2]; omega
           have hO337 := MvO.gr hO285 (below_grown hb329) (fun k e => by cases e)
           have hr338 := row_kept_new hr287 (below_grown hb329)
           have hr339 := row_kept_new hr273' (below_grown hb329)
           have hB340 := hb_call hB283 hb329
           exact ⟨j + 1, (GA ++ (scanL (hitsF fA t fr to) (1 + rm218))), (nextB y323.1), v272, h336.sub ⟨rfl, rfl, rfl, rfl, rfl, rfl, rfl, rfl, rfl, rfl, rfl, trivial⟩, rfl, by omega, by exact hre9, by first | exact hjl9 | exact Nat.le_refl _, hO337, hr338, (row_eq hr339 (rfl)), hzb332, hB340⟩
          ·
           rw [hc317] at h316
           have hp341 : (((scanL (hitsF fA t fr to) (1 + rm218)).length : Nat) : Int) ≠ 1 + rm218 := by first | simpa using hc317 | simpa [and_assoc] using hc317
           clear hc317
           refine co_true h316 rfl ?_
           refine co_seq ?_
           refine co_reg ?_
           refine pk0 (v := .bool false) h316 rfl fun a342 h342 => ?_; clear h316
           refine pl_nil ?_
           refine co_then ?_
           refine wp_ret ?_
           refine co_thenR ?_
           refine co_blockR ?_
           refine co_thenR ?_
           refine co_thenR ?_
           refine co_blockR ?_
           refine co_thenR ?_
           refine co_ret1 h342 rfl rfl ?_
           exfalso
           first | (have h9 := scan_len (H := hitsF fA t fr to) (by first | assumption | simpa using (by assumption)) (by omega); omega) | omega
      ·
       rw [hc195] at h194
       have hp343 : ((i : Nat) : Int) < 30 := of_decide_eq_true hc195
       clear hc195
       refine co_true h194 rfl ?_
       refine wp_skip ?_
       refine co_then ?_
       refine co_seq ?_
       refine wp_block ?_
       refine dr_gen (fun x => Below w.heap.size w x) (by kernel_rfl) (fun w344 hg345 => ?_) (fun w344 hg345 => ?_)
       ·
        have hz346 := hg345.size
        have hB347 := hb_new hB32 hg345
        exact hB347
       have hz348 := hg345.size
       have hB349 := hb_new hB32 hg345
       refine dk0 0 (v := pt N12 0) h194 rfl rfl hB349 fun a350 h350 => ?_; clear h194
       refine dk0 1 (v := v) h350 rfl rfl hB349 fun a351 h351 => ?_; clear h350
       refine dk0 2 (v := .int .i64 ((i : Nat) : Int)) h351 rfl rfl hB349 fun a352 h352 => ?_; clear h351
       obtain ⟨y353, hy353⟩ : ∃ z, l[i]? = some z := ⟨_, List.getElem?_eq_getElem (by first | omega | (simp; done) | (simp; omega))⟩
       have oky353 := hok _ (List.mem_of_getElem? hy353)
       have k354 : 0 ≤ y353.ts := oky353.t0
       have k355 : y353.ts < 18446744073709551616 := oky353.t1
       refine dk 3 (v := pt (blkOf v) (offOf v + i * 6)) h352 rfl rfl hB349 (fun x hx => (rn_index rfl rfl rfl Try.underlying22 Try.sizeOf34 (hs.below hx) (by omega) (by first | omega | (simp; done) | (simp; omega)))) fun a356 h356 => ?_; clear h352
       refine dk0 4 (v := pt (blkOf v) (offOf v + i * 6 + 1)) h356 rfl rfl hB349 fun a357 h357 => ?_; clear h356
       refine dk 5 (v := .int .u64 y353.ts) h357 rfl rfl hB349 (fun x hx => (rn_load1 rfl rfl Try.isAgg29 ((sl_at (hs.below hx) hy353) 1 _ rfl))) fun a358 h358 => ?_; clear h357
       refine dk0 6 (v := v) h358 rfl rfl hB349 fun a359 h359 => ?_; clear h358
       refine dk0 7 (v := .int .i64 ((i : Nat) : Int)) h359 rfl rfl hB349 fun a360 h360 => ?_; clear h359
       refine dk 8 (v := pt (blkOf v) (offOf v + i * 6)) h360 rfl rfl hB349 (fun x hx => (rn_index rfl rfl rfl Try.underlying22 Try.sizeOf34 (hs.below hx) (by omega) (by first | omega | (simp; done) | (simp; omega)))) fun a361 h361 => ?_; clear h360
       refine dk0 9 (v := pt (blkOf v) (offOf v + i * 6 + 2)) h361 rfl rfl hB349 fun a362 h362 => ?_; clear h361
       refine dk 10 (v := y353.v) h362 rfl rfl hB349 (fun x hx => (rn_load1 rfl rfl Try.isAgg32 ((sl_at (hs.below hx) hy353) 2 _ rfl))) fun a363 h363 => ?_; clear h362
       have hO367 := MvO.gr hf31 hg345 (fun k e => by cases e)
       have ho366 := MvO.ofS hO367
       have hfly353 : y353.l.length ≤ 20 := by first | exact Few.at hfew hy353 (by omega) | exact Few.at hfew2 hy353 (by omega)
       refine d1 11 h363 rfl rfl (op_call (args := #[pt N12 0, .int .u64 y353.ts, y353.v]) (R := fun res xw => ∃ S' : Nat → Prop, res = .int .i64 (mvE lA y353.ts y353.l) ∧ MvO S' xw N12 (mvF fA lA y353.ts y353.l) (mvLa lA y353.ts y353.l) (mvCe lA y353.ts cA y353.l) (i + 1) ∧ ((ksOf (mvF fA lA y353.ts y353.l)).length ≤ (ksOf fA).length + 4) ∧ Grew SA S' w344 xw) rfl rfl rfl (by kernel_rfl) (by kernel_rfl) (Try.call11 _ _) (mvPut2 w344 y353.ts (y353.v) y353.l hO367 (oky353.ops.below hB349) (sl_off oky353.ops (opE_ne _) hlo34) (by omega) ⟨by omega, by omega⟩ (by omega)) (by rintro e x ⟨S', h0, h⟩; exact ⟨_, h0, S', rfl, h⟩)) ?_ ?_; clear h363
       ·
        rintro _ w365 ⟨S368, rfl, hO369, hq371, hx370⟩
        have hlo373 : ∀ q, S368 q → w.heap.size ≤ q := hx370.lo hlo34 (by omega)
        have hB372 := hbL hB349 hlo34 hx370.but
        have hz374 := hB372.size
        have hz375 := hx370.but.size
        exact hB372
       rintro _ w365 a364 ⟨S368, rfl, hO369, hq371, hx370⟩ h364
       have hlo373 : ∀ q, S368 q → w.heap.size ≤ q := hx370.lo hlo34 (by omega)
       have hB372 := hbL hB349 hlo34 hx370.but
       have hz374 := hB372.size
       have hz375 := hx370.but.size
       refine dr_done (by kernel_rfl) ?_
       refine co_blockN ?_
       refine co_then ?_
       refine co_reg ?_
       refine pk0 (v := .int .i64 ((i : Nat) : Int)) h364 rfl fun a376 h376 => ?_; clear h364
       refine pk (v := .int .i64 ((i + 1 : Nat) : Int)) h376 rfl (rn_arith' rfl rfl rfl rfl rfl rfl (IntWalk.i64_in _ (by omega)) (by omega)) fun a377 h377 => ?_; clear h376
       refine pk0 (v := .int .i64 ((i + 1 : Nat) : Int)) h377 rfl fun a378 h378 => ?_; clear h377
       refine pl_nil ?_
       refine co_then ?_
       refine ⟨(l.length - (i + 1)), by omega, ?_⟩
       have hlo9 := hlo373
       have hks9 : (ksOf (mvF fA lA y353.ts y353.l)).length ≤ 4 * (i + 1) := by have hq9 := hq371; omega
       have hky9 := keyOk_mv hkyA lA y353.ts y353.l
       exact ⟨i + 1, S368, (mvF fA lA y353.ts y353.l), (mvLa lA y353.ts y353.l), (mvCe lA y353.ts cA y353.l), h378.sub ⟨rfl, rfl, rfl, rfl, rfl, rfl, rfl, trivial⟩, rfl, by omega, by omega, by exact hlo9, by exact hks9, by exact hky9, hO369, hB372⟩
 · skip
   refine co_enter (n := 97) Try.func5 rfl rfl rfl [(0, v), (1, .int .u64 t), (2, .string k), (3, .string to), (4, .int .u8 n)] rfl (fun a h0 => ?_)
   refine co_seq ?_
   refine co_reg ?_
   refine pk0 (v := .bool false) h0 rfl fun a379 h379 => ?_; clear h0
   refine pl_nil ?_
   refine co_then ?_
   refine co_seq ?_
   refine co_seq ?_
   refine co_reg ?_
   refine pk0 (v := v) h379 rfl fun a380 h380 => ?_; clear h379
   refine pw h380 rfl (op_call (args := #[v]) (R := fun res xw => res = .bool (decide (Few l 40)) ∧ Below w.heap.size w xw) rfl rfl rfl (by kernel_rfl) (by kernel_rfl) (Try.call8 _ _) (few16_any v l w (hs.below hB0) (fun z hz => (hok z hz).below hB0)) (by rintro e x ⟨rfl, h⟩; exact ⟨_, rfl, rfl, h⟩)) ?_; clear h380
   rintro _ w382 a381 ⟨rfl, hb383⟩ h381
   have hz384 := hb383.size
   have hc385 : (decide (Few l 40)) = false := by simp [hfew]
   rw [hc385] at h381; clear hc385
   refine pk0 (v := .bool true) h381 rfl fun a386 h386 => ?_; clear h381
   refine pl_nil ?_
   refine co_then ?_
   refine co_true h386 rfl ?_
   refine co_seq ?_
   refine co_reg ?_
   have hB389 := hb_call hB0 hb383
   refine pw h386 rfl (op_call (args := #[]) (R := fun res xw => res = .bool true ∧ Below w382.heap.size w382 xw) rfl rfl rfl (by kernel_rfl) (by kernel_rfl) (Try.call9 _ _) (awake16 w382) (by rintro e x ⟨rfl, h⟩; exact ⟨_, rfl, rfl, h⟩)) ?_; clear h386
   rintro _ w388 a387 ⟨rfl, hb390⟩ h387
   have hz391 := hb390.size
   refine pk0 (v := .bool true) h387 rfl fun a392 h392 => ?_; clear h387
   refine pl_nil ?_
   refine co_then ?_
   refine wp_ret ?_
   refine co_thenR ?_
   refine co_ret1 h392 rfl rfl ?_
   have hB393 := hb_call hB389 hb390
   exact ⟨rfl, hB393⟩

theorem mvccPages_l (v : Value) (l : List MActT) (t : Int) (k to : ByteArray) (n : Int) (w : World) (hs : SliceOf mactE 6 w v l) (hok : ∀ z ∈ l, MActOk w z) (ht : (Lit.int .u64 t).wf = true) (_ : k.size ≤ 140737488351232) (_ : to.size ≤ 140737488351232) (hn : (Lit.int .u8 n).wf = true) :
    Calls Try.prog 5 #[v, .int .u64 t, .string k, .string to, .int .u8 n] w fun e w' => e = .returned (.bool true) ∧ Below w.heap.size w w' := mvccPages_law v l t k to n w hs hok (wf_u64 ht) (wf_u8 hn)

end Go.Proofs.Ytfjhlckklgeokaa
