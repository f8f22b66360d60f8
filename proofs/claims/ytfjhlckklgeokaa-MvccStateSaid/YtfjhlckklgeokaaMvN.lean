/- MvccState. Conditions: none. -/
import Derived.Test.YtfjhlckklgeokaaMvM
namespace Go.Proofs.Ytfjhlckklgeokaa
open Go.RowKit Go.PlainAid
set_option linter.unusedVariables false
set_option linter.unusedSimpArgs false

set_option maxRecDepth 100000 in
set_option maxHeartbeats 6400000 in
theorem mvccState_law (v : Value) (l : List MActT) (t : Int) (w : World) (hs : SliceOf mactE 6 w v l) (hok : ∀ z ∈ l, MActOk w z) (ht : 0 ≤ t ∧ t < 18446744073709551616) :
    Calls Try.prog 6 #[v, .int .u64 t] w fun e w' => e = .returned (.bool true) ∧ Below w.heap.size w w' := by
 have hB0 := Below.refl w.heap.size w
 have hl_hs := sl_len hs
 by_cases hfew : Few l 40
 · skip
   refine co_enter (n := 70) Try.func6 rfl rfl rfl [(0, v), (1, .int .u64 t)] rfl (fun a h0 => ?_)
   refine co_seq ?_
   refine co_reg ?_
   refine pk0 (v := .bool false) h0 rfl fun a1 h1 => ?_; clear h0
   refine pl_nil ?_
   refine co_then ?_
   refine co_seq ?_
   refine co_seq ?_
   refine co_reg ?_
   refine pk0 (v := v) h1 rfl fun a2 h2 => ?_; clear h1
   refine pw h2 rfl (op_call (args := #[v]) (R := fun res xw => res = .bool (decide (Few l 40)) ∧ Below w.heap.size w xw) rfl rfl rfl (by kernel_rfl) (by kernel_rfl) (Try.call8 _ _) (few16_any v l w (hs.below hB0) (fun z hz => (hok z hz).below hB0)) (by rintro e x ⟨rfl, h⟩; exact ⟨_, rfl, rfl, h⟩)) ?_; clear h2
   rintro _ w4 a3 ⟨rfl, hb5⟩ h3
   have hz6 := hb5.size
   have hc7 : (decide (Few l 40)) = true := by simp [hfew]
   rw [hc7] at h3; clear hc7
   refine pk0 (v := .bool false) h3 rfl fun a8 h8 => ?_; clear h3
   refine pl_nil ?_
   refine co_then ?_
   refine co_false h8 rfl ?_
   refine wp_skip ?_
   refine co_then ?_
   refine co_seq ?_
   refine co_reg ?_
   have hB11 := hb_call hB0 hb5
   refine pw h8 rfl (op_call (args := #[]) (R := fun res xw => ∃ N S, res = pt N 0 ∧ MvO S xw N (fun _ => []) 0 0 0 ∧ (∀ q, S q → w4.heap.size ≤ q) ∧ Below w4.heap.size w4 xw) rfl rfl rfl (by kernel_rfl) (by kernel_rfl) (Try.call10 _ _) (mvNew w4) (by rintro e x ⟨N, S, rfl, h⟩; exact ⟨_, rfl, N, S, rfl, h⟩)) ?_; clear h8
   rintro _ w10 a9 ⟨N12, S13, rfl, hO14, hlo15, hb16⟩ h9
   have hz17 := hb16.size
   have hlo18 : ∀ q, S13 q → w.heap.size ≤ q := fun q hq => by have := hlo15 q hq; omega
   refine pk0 (v := pt N12 0) h9 rfl fun a19 h19 => ?_; clear h9
   refine pl_nil ?_
   refine co_then ?_
   refine co_seq ?_
   refine co_reg ?_
   refine pk0 (v := .slice none 0 0) h19 rfl fun a20 h20 => ?_; clear h19
   refine pl_nil ?_
   refine co_then ?_
   refine co_seq ?_
   refine co_seq ?_
   refine co_reg ?_
   refine pk0 (v := .int .i64 0) h20 rfl fun a21 h21 => ?_; clear h20
   refine pl_nil ?_
   refine co_then ?_
   refine wp_block ?_
   have hlo9 := hlo18
   have hof9 : ∀ i, (Value.slice none 0 0).ownBlock = some i → ¬ S13 i := offR_nil
   have hks9 : (ksOf (fun _ => [])).length ≤ 4 * 0 := by rw [ks_0]; exact Nat.le_refl _
   have h22 : Slots 70 [(0, v), (1, .int .u64 t), (5, pt N12 0), (6, .slice none 0 0), (7, .int .i64 0)] _ := h21.sub ⟨rfl, rfl, rfl, rfl, rfl, trivial⟩; clear h21
   refine co_loop (fun mm a x => ∃ (i : Nat) (SA : Nat → Prop) (fA : Fv) (lA : Int) (cA : Int) (u : Value), Slots 70 [(0, v), (1, .int .u64 t), (5, pt N12 0), (6, u), (7, .int .i64 ((i : Nat) : Int))] a ∧ mm = l.length - i ∧ (i ≤ l.length) ∧ (i ≤ 30) ∧ (∀ q, SA q → w.heap.size ≤ q) ∧ ((ksOf fA).length ≤ 4 * i) ∧ (∀ i, u.ownBlock = some i → ¬ SA i) ∧ MvO SA x N12 fA lA cA i ∧ x.ownsRow w.heap.size 51 2 u (hitsF fA t ⟨#[]⟩ ⟨#[]⟩).length ((hitsF fA t ⟨#[]⟩ ⟨#[]⟩).flatMap pairE) ∧ Below w.heap.size w x) (l.length - 0) ?_ ?_
   have hB23 := hb_call hB11 hb16
   · exact ⟨0, S13, (fun _ => []), 0, 0, (.slice none 0 0), h22.sub ⟨rfl, rfl, rfl, rfl, (slot_eq rfl (congrArg (Value.int .i64) (by first | rfl | omega))), trivial⟩, rfl, by omega, by omega, by exact hlo9, by exact hks9, by exact hof9, hO14, (row_eq (row_nilL _ _ _ _ _) hits_0.symm), hB23⟩
   · rintro k24 a25 w26 ⟨i, SA, fA, lA, cA, u, h25, rfl, hi27, hi28, hi29, hi30, hi31, hf32, hf33, hB34⟩
     have hz35 := hB34.size
     have hlo36 : ∀ q, SA q → w.heap.size ≤ q := by assumption
     have hksA : (ksOf fA).length ≤ 4 * i := by assumption
     have hofA : ∀ i, u.ownBlock = some i → ¬ SA i := by assumption
     have hhl9 := hits_len (f := fA) (t := t) (F := ⟨#[]⟩) (T := ⟨#[]⟩)
     have hhk9 : (hitsF fA t ⟨#[]⟩ ⟨#[]⟩).length ≤ 120 := by omega
     have hw1 := scan_whole (H := (hitsF fA t ⟨#[]⟩ ⟨#[]⟩)) (by omega)
     have hsm1 := scanM_no (H := (hitsF fA t ⟨#[]⟩ ⟨#[]⟩)) (by omega)
     refine co_seq ?_
     refine co_seq ?_
     refine co_reg ?_
     refine pk0 (v := .int .i64 ((i : Nat) : Int)) h25 rfl fun a37 h37 => ?_; clear h25
     refine pk0 (v := v) h37 rfl fun a38 h38 => ?_; clear h37
     refine pk (v := .int .i64 ((l.length : Nat) : Int)) h38 rfl (rn_len rfl rfl Try.underlying22 (hs.below hB34)) fun a39 h39 => ?_; clear h38
     refine pk0 (v := .bool (decide (((i : Nat) : Int) < ((l.length : Nat) : Int)))) h39 rfl fun a40 h40 => ?_; clear h39
     refine pk0 (v := .bool (decide (((i : Nat) : Int) < ((l.length : Nat) : Int)))) h40 rfl fun a41 h41 => ?_; clear h40
     cases hc42 : (decide (((i : Nat) : Int) < ((l.length : Nat) : Int)))
     ·
      rw [hc42] at h41
      have hp43 : ¬ (((i : Nat) : Int) < ((l.length : Nat) : Int)) := of_decide_eq_false hc42
      clear hc42
      refine psk h41 rfl fun a44 h44 => ?_; clear h41
      refine psk h44 rfl fun a45 h45 => ?_; clear h44
      refine pk0 (v := .bool false) h45 rfl fun a46 h46 => ?_; clear h45
      refine pl_nil ?_
      refine co_then ?_
      refine co_false h46 rfl ?_
      refine wp_exit ?_
      refine co_thenX ?_
      refine co_thenX ?_
      refine co_blockX ?_
      refine co_then ?_
      refine co_seq ?_
      refine co_reg ?_
      refine pk0 (v := pt N12 0) h46 rfl fun a47 h47 => ?_; clear h46
      refine pk0 (v := .int .u64 t) h47 rfl fun a48 h48 => ?_; clear h47
      have ho51 := MvO.ofS hf32
      refine pw h48 rfl (op_call (args := #[pt N12 0, .string (⟨#[]⟩), .string (⟨#[]⟩), .int .u64 t, .int .i64 1000]) (R := fun res xw => ∃ (ao : Option Addr) (nn cap : Nat), res = .tuple #[.slice ao nn cap, .bool (scanM (hitsF fA t (⟨#[]⟩) (⟨#[]⟩)) 1000)] ∧ xw.ownsRow w26.heap.size 51 2 (.slice ao nn cap) (scanL (hitsF fA t (⟨#[]⟩) (⟨#[]⟩)) 1000).length ((scanL (hitsF fA t (⟨#[]⟩) (⟨#[]⟩)) 1000).flatMap pairE) ∧ Below w26.heap.size w26 xw) rfl rfl rfl (by kernel_rfl) (by kernel_rfl) (Try.call20 _ _) (mvScan w26 (⟨#[]⟩) (⟨#[]⟩) t 1000 hf32 (by omega) (by omega)) (by rintro e x ⟨u, h0, h⟩; obtain ⟨ao, nn, cap, rfl⟩ := own_sliceT h.1; exact ⟨_, h0, ao, nn, cap, rfl, h⟩)) ?_; clear h48
      rintro _ w50 a49 ⟨ao52, nn53, cp54, rfl, hr55, hb56⟩ h49
      have hz57 := hb56.size
      have ho58 := MvO.ofS hf32
      have hra59 : ∀ i, (Value.slice ao52 nn53 cp54).ownBlock = some i → Value.ownBlock u ≠ some i := fun i hi h1 => by have e1 := (hr55.lt i hi).1; have e2 := (hf33.lt i h1).2; omega
      refine pk0 (v := .tuple #[.slice ao52 nn53 cp54, .bool (scanM (hitsF fA t (⟨#[]⟩) (⟨#[]⟩)) 1000)]) h49 rfl fun a60 h60 => ?_; clear h49
      refine pk0 (v := .slice ao52 nn53 cp54) h60 rfl fun a61 h61 => ?_; clear h60
      refine pk0 (v := .bool (scanM (hitsF fA t (⟨#[]⟩) (⟨#[]⟩)) 1000)) h61 rfl fun a62 h62 => ?_; clear h61
      refine pk0 (v := .slice ao52 nn53 cp54) h62 rfl fun a63 h63 => ?_; clear h62
      refine pk0 (v := .bool (scanM (hitsF fA t (⟨#[]⟩) (⟨#[]⟩)) 1000)) h63 rfl fun a64 h64 => ?_; clear h63
      refine pl_nil ?_
      refine co_then ?_
      refine co_seq ?_
      refine co_reg ?_
      refine pk0 (v := .slice ao52 nn53 cp54) h64 rfl fun a65 h65 => ?_; clear h64
      refine pk0 (v := u) h65 rfl fun a66 h66 => ?_; clear h65
      have hB69 := hb_call hB34 hb56
      have hr70 := row_kept_new hf33 (below_grown hb56)
      refine pw h66 rfl (op_call (args := #[.slice ao52 nn53 cp54, u]) (R := fun res xw => res = .bool true ∧ Below w50.heap.size w50 xw) rfl rfl rfl (by kernel_rfl) (by kernel_rfl) (Try.call21 _ _) (rsamePairs_any (.slice ao52 nn53 cp54) (scanL (hitsF fA t (⟨#[]⟩) (⟨#[]⟩)) 1000) u (hitsF fA t ⟨#[]⟩ ⟨#[]⟩) w50 (row_sl hr55 pairE_len) (row_sl hr70 pairE_len)) (by rintro e x ⟨h0, h⟩; rw [hw1, sameP_refl] at h0; exact ⟨_, h0, rfl, h⟩)) ?_; clear h66
      rintro _ w68 a67 ⟨rfl, hb71⟩ h67
      have hz72 := hb71.size
      have hO74 := MvO.gr hf32 (below_grown hb56) (fun k e => by cases e)
      have ho73 := MvO.ofS hO74
      refine pk0 (v := .bool true) h67 rfl fun a75 h75 => ?_; clear h67
      refine pk0 (v := .bool (scanM (hitsF fA t (⟨#[]⟩) (⟨#[]⟩)) 1000)) h75 rfl fun a76 h76 => ?_; clear h75
      have hc77 : ((scanM (hitsF fA t (⟨#[]⟩) (⟨#[]⟩)) 1000)) = false := by simp [hsm1]
      rw [hc77] at h76; clear hc77
      refine pk0 (v := .bool true) h76 rfl fun a78 h78 => ?_; clear h76
      refine pk0 (v := .bool true) h78 rfl fun a79 h79 => ?_; clear h78
      refine pk0 (v := .bool true) h79 rfl fun a80 h80 => ?_; clear h79
      have hB83 := hb_call hB69 hb71
      refine pw h80 rfl (op_call (args := #[]) (R := fun res xw => res = .bool true ∧ Below w68.heap.size w68 xw) rfl rfl rfl (by kernel_rfl) (by kernel_rfl) (Try.call9 _ _) (awake16 w68) (by rintro e x ⟨rfl, h⟩; exact ⟨_, rfl, rfl, h⟩)) ?_; clear h80
      rintro _ w82 a81 ⟨rfl, hb84⟩ h81
      have hz85 := hb84.size
      have hO87 := MvO.gr hO74 (below_grown hb71) (fun k e => by cases e)
      have ho86 := MvO.ofS hO87
      refine pk0 (v := .bool true) h81 rfl fun a88 h88 => ?_; clear h81
      refine pk0 (v := .bool true) h88 rfl fun a89 h89 => ?_; clear h88
      refine pl_nil ?_
      refine co_then ?_
      refine wp_ret ?_
      refine co_ret1 h89 rfl rfl ?_
      have hB90 := hb_call hB83 hb84
      exact ⟨rfl, hB90⟩
     ·
      rw [hc42] at h41
      have hp91 : ((i : Nat) : Int) < ((l.length : Nat) : Int) := of_decide_eq_true hc42
      clear hc42
      refine pk0 (v := .int .i64 ((i : Nat) : Int)) h41 rfl fun a92 h92 => ?_; clear h41
      refine pk0 (v := .bool (decide (((i : Nat) : Int) < 30))) h92 rfl fun a93 h93 => ?_; clear h92
      refine pk0 (v := .bool (decide (((i : Nat) : Int) < 30))) h93 rfl fun a94 h94 => ?_; clear h93
      refine pl_nil ?_
      refine co_then ?_
      cases hc95 : (decide (((i : Nat) : Int) < 30))
      ·
       rw [hc95] at h94
       have hp96 : ¬ (((i : Nat) : Int) < 30) := of_decide_eq_false hc95
       clear hc95
       refine co_false h94 rfl ?_
       refine wp_exit ?_
       refine co_thenX ?_
       refine co_thenX ?_
       refine co_blockX ?_
       refine co_then ?_
       refine co_seq ?_
       refine co_reg ?_
       refine pk0 (v := pt N12 0) h94 rfl fun a97 h97 => ?_; clear h94
       refine pk0 (v := .int .u64 t) h97 rfl fun a98 h98 => ?_; clear h97
       have ho101 := MvO.ofS hf32
       refine pw h98 rfl (op_call (args := #[pt N12 0, .string (⟨#[]⟩), .string (⟨#[]⟩), .int .u64 t, .int .i64 1000]) (R := fun res xw => ∃ (ao : Option Addr) (nn cap : Nat), res = .tuple #[.slice ao nn cap, .bool (scanM (hitsF fA t (⟨#[]⟩) (⟨#[]⟩)) 1000)] ∧ xw.ownsRow w26.heap.size 51 2 (.slice ao nn cap) (scanL (hitsF fA t (⟨#[]⟩) (⟨#[]⟩)) 1000).length ((scanL (hitsF fA t (⟨#[]⟩) (⟨#[]⟩)) 1000).flatMap pairE) ∧ Below w26.heap.size w26 xw) rfl rfl rfl (by kernel_rfl) (by kernel_rfl) (Try.call20 _ _) (mvScan w26 (⟨#[]⟩) (⟨#[]⟩) t 1000 hf32 (by omega) (by omega)) (by rintro e x ⟨u, h0, h⟩; obtain ⟨ao, nn, cap, rfl⟩ := own_sliceT h.1; exact ⟨_, h0, ao, nn, cap, rfl, h⟩)) ?_; clear h98
       rintro _ w100 a99 ⟨ao102, nn103, cp104, rfl, hr105, hb106⟩ h99
       have hz107 := hb106.size
       have ho108 := MvO.ofS hf32
       have hra109 : ∀ i, (Value.slice ao102 nn103 cp104).ownBlock = some i → Value.ownBlock u ≠ some i := fun i hi h1 => by have e1 := (hr105.lt i hi).1; have e2 := (hf33.lt i h1).2; omega
       refine pk0 (v := .tuple #[.slice ao102 nn103 cp104, .bool (scanM (hitsF fA t (⟨#[]⟩) (⟨#[]⟩)) 1000)]) h99 rfl fun a110 h110 => ?_; clear h99
       refine pk0 (v := .slice ao102 nn103 cp104) h110 rfl fun a111 h111 => ?_; clear h110
       refine pk0 (v := .bool (scanM (hitsF fA t (⟨#[]⟩) (⟨#[]⟩)) 1000)) h111 rfl fun a112 h112 => ?_; clear h111
       refine pk0 (v := .slice ao102 nn103 cp104) h112 rfl fun a113 h113 => ?_; clear h112
       refine pk0 (v := .bool (scanM (hitsF fA t (⟨#[]⟩) (⟨#[]⟩)) 1000)) h113 rfl fun a114 h114 => ?_; clear h113
       refine pl_nil ?_
       refine co_then ?_
       refine co_seq ?_
       refine co_reg ?_
       refine pk0 (v := .slice ao102 nn103 cp104) h114 rfl fun a115 h115 => ?_; clear h114
       refine pk0 (v := u) h115 rfl fun a116 h116 => ?_; clear h115
       have hB119 := hb_call hB34 hb106
       have hr120 := row_kept_new hf33 (below_grown hb106)
       refine pw h116 rfl (op_call (args := #[.slice ao102 nn103 cp104, u]) (R := fun res xw => res = .bool true ∧ Below w100.heap.size w100 xw) rfl rfl rfl (by kernel_rfl) (by kernel_rfl) (Try.call21 _ _) (rsamePairs_any (.slice ao102 nn103 cp104) (scanL (hitsF fA t (⟨#[]⟩) (⟨#[]⟩)) 1000) u (hitsF fA t ⟨#[]⟩ ⟨#[]⟩) w100 (row_sl hr105 pairE_len) (row_sl hr120 pairE_len)) (by rintro e x ⟨h0, h⟩; rw [hw1, sameP_refl] at h0; exact ⟨_, h0, rfl, h⟩)) ?_; clear h116
       rintro _ w118 a117 ⟨rfl, hb121⟩ h117
       have hz122 := hb121.size
       have hO124 := MvO.gr hf32 (below_grown hb106) (fun k e => by cases e)
       have ho123 := MvO.ofS hO124
       refine pk0 (v := .bool true) h117 rfl fun a125 h125 => ?_; clear h117
       refine pk0 (v := .bool (scanM (hitsF fA t (⟨#[]⟩) (⟨#[]⟩)) 1000)) h125 rfl fun a126 h126 => ?_; clear h125
       have hc127 : ((scanM (hitsF fA t (⟨#[]⟩) (⟨#[]⟩)) 1000)) = false := by simp [hsm1]
       rw [hc127] at h126; clear hc127
       refine pk0 (v := .bool true) h126 rfl fun a128 h128 => ?_; clear h126
       refine pk0 (v := .bool true) h128 rfl fun a129 h129 => ?_; clear h128
       refine pk0 (v := .bool true) h129 rfl fun a130 h130 => ?_; clear h129
       have hB133 := hb_call hB119 hb121
       refine pw h130 rfl (op_call (args := #[]) (R := fun res xw => res = .bool true ∧ Below w118.heap.size w118 xw) rfl rfl rfl (by kernel_rfl) (by kernel_rfl) (Try.call9 _ _) (awake16 w118) (by rintro e x ⟨rfl, h⟩; exact ⟨_, rfl, rfl, h⟩)) ?_; clear h130
       rintro _ w132 a131 ⟨rfl, hb134⟩ h131
       have hz135 := hb134.size
       have hO137 := MvO.gr hO124 (below_grown hb121) (fun k e => by cases e)
       have ho136 := MvO.ofS hO137
       refine pk0 (v := .bool true) h131 rfl fun a138 h138 => ?_; clear h131
       refine pk0 (v := .bool true) h138 rfl fun a139 h139 => ?_; clear h138
       refine pl_nil ?_
       refine co_then ?_
       refine wp_ret ?_
       refine co_ret1 h139 rfl rfl ?_
       have hB140 := hb_call hB133 hb134
       exact ⟨rfl, hB140⟩
      ·
       rw [hc95] at h94
       have hp141 : ((i : Nat) : Int) < 30 := of_decide_eq_true hc95
       clear hc95
       refine co_true h94 rfl ?_
       refine wp_skip ?_
       refine co_then ?_
       refine co_seq ?_
       refine wp_block ?_
       refine co_seq ?_
       refine dr_gen (fun x => Below w.heap.size w x) (by kernel_rfl) (fun w142 hg143 => ?_) (fun w142 hg143 => ?_)
       ·
        have hz144 := hg143.size
        have hB145 := hb_new hB34 hg143
        exact hB145
       have hz146 := hg143.size
       have hB147 := hb_new hB34 hg143
       refine dk0 0 (v := pt N12 0) h94 rfl rfl hB147 fun a148 h148 => ?_; clear h94
       refine dk0 1 (v := v) h148 rfl rfl hB147 fun a149 h149 => ?_; clear h148
       refine dk0 2 (v := .int .i64 ((i : Nat) : Int)) h149 rfl rfl hB147 fun a150 h150 => ?_; clear h149
       obtain ⟨y151, hy151⟩ : ∃ z, l[i]? = some z := ⟨_, List.getElem?_eq_getElem (by first | omega | (simp; done) | (simp; omega))⟩
       have oky151 := hok _ (List.mem_of_getElem? hy151)
       have k152 : 0 ≤ y151.ts := oky151.t0
       have k153 : y151.ts < 18446744073709551616 := oky151.t1
       refine dk 3 (v := pt (blkOf v) (offOf v + i * 6)) h150 rfl rfl hB147 (fun x hx => (rn_index rfl rfl rfl Try.underlying22 Try.sizeOf34 (hs.below hx) (by omega) (by first | omega | (simp; done) | (simp; omega)))) fun a154 h154 => ?_; clear h150
       refine dk0 4 (v := pt (blkOf v) (offOf v + i * 6 + 1)) h154 rfl rfl hB147 fun a155 h155 => ?_; clear h154
       refine dk 5 (v := .int .u64 y151.ts) h155 rfl rfl hB147 (fun x hx => (rn_load1 rfl rfl Try.isAgg29 ((sl_at (hs.below hx) hy151) 1 _ rfl))) fun a156 h156 => ?_; clear h155
       refine dk0 6 (v := v) h156 rfl rfl hB147 fun a157 h157 => ?_; clear h156
       refine dk0 7 (v := .int .i64 ((i : Nat) : Int)) h157 rfl rfl hB147 fun a158 h158 => ?_; clear h157
       refine dk 8 (v := pt (blkOf v) (offOf v + i * 6)) h158 rfl rfl hB147 (fun x hx => (rn_index rfl rfl rfl Try.underlying22 Try.sizeOf34 (hs.below hx) (by omega) (by first | omega | (simp; done) | (simp; omega)))) fun a159 h159 => ?_; clear h158
       refine dk0 9 (v := pt (blkOf v) (offOf v + i * 6 + 2)) h159 rfl rfl hB147 fun a160 h160 => ?_; clear h159
       refine dk 10 (v := y151.v) h160 rfl rfl hB147 (fun x hx => (rn_load1 rfl rfl Try.isAgg32 ((sl_at (hs.below hx) hy151) 2 _ rfl))) fun a161 h161 => ?_; clear h160
       have hO165 := MvO.gr hf32 hg143 (fun k e => by cases e)
       have ho164 := MvO.ofS hO165
       have hfly151 : y151.l.length ≤ 20 := by first | exact Few.at hfew hy151 (by omega) | exact Few.at hfew2 hy151 (by omega)
       refine d1 11 h161 rfl rfl (op_call (args := #[pt N12 0, .int .u64 y151.ts, y151.v]) (R := fun res xw => ∃ S' : Nat → Prop, res = .int .i64 (mvE lA y151.ts y151.l) ∧ MvO S' xw N12 (mvF fA lA y151.ts y151.l) (mvLa lA y151.ts y151.l) (mvCe lA y151.ts cA y151.l) (i + 1) ∧ ((ksOf (mvF fA lA y151.ts y151.l)).length ≤ (ksOf fA).length + 4) ∧ Grew SA S' w142 xw) rfl rfl rfl (by kernel_rfl) (by kernel_rfl) (Try.call11 _ _) (mvPut2 w142 y151.ts (y151.v) y151.l hO165 (oky151.ops.below hB147) (sl_off oky151.ops (opE_ne _) hlo36) (by omega) ⟨by omega, by omega⟩ (by omega)) (by rintro e x ⟨S', h0, h⟩; exact ⟨_, h0, S', rfl, h⟩)) ?_ ?_; clear h161
       ·
        rintro _ w163 ⟨S166, rfl, hO167, hq169, hx168⟩
        have hr170 := row_kept_new hf33 hg143
        have hlo172 : ∀ q, S166 q → w.heap.size ≤ q := hx168.lo hlo36 (by omega)
        have hB171 := hbL hB147 hlo36 hx168.but
        have hz173 := hB171.size
        have hz174 := hx168.but.size
        exact hB171
       rintro _ w163 a162 ⟨S166, rfl, hO167, hq169, hx168⟩ h162
       have hr170 := row_kept_new hf33 hg143
       have hlo172 : ∀ q, S166 q → w.heap.size ≤ q := hx168.lo hlo36 (by omega)
       have hB171 := hbL hB147 hlo36 hx168.but
       have hz173 := hB171.size
       have hz174 := hx168.but.size
       refine dk0 12 (v := .bool ((mvE lA y151.ts y151.l) == 0)) h162 rfl rfl hB171 fun a175 h175 => ?_; clear h162
       refine dk0 13 (v := .bool ((mvE lA y151.ts y151.l) == 0)) h175 rfl rfl hB171 fun a176 h176 => ?_; clear h175
       cases hc177 : ((mvE lA y151.ts y151.l) == 0)
       ·
        rw [hc177] at h176
        have hp178 : ¬ ((mvE lA y151.ts y151.l) = 0) := by first | simpa using hc177 | simpa [and_assoc] using hc177
        clear hc177
        refine dsk 14 h176 rfl rfl hB171 fun a179 h179 => ?_; clear h176
        refine dsk 15 h179 rfl rfl hB171 fun a180 h180 => ?_; clear h179
        refine dsk 16 h180 rfl rfl hB171 fun a181 h181 => ?_; clear h180
        refine dsk 17 h181 rfl rfl hB171 fun a182 h182 => ?_; clear h181
        refine dsk 18 h182 rfl rfl hB171 fun a183 h183 => ?_; clear h182
        refine dsk 19 h183 rfl rfl hB171 fun a184 h184 => ?_; clear h183
        refine dsk 20 h184 rfl rfl hB171 fun a185 h185 => ?_; clear h184
        refine dk0 21 (v := .bool false) h185 rfl rfl hB171 fun a186 h186 => ?_; clear h185
        refine dr_done (by kernel_rfl) ?_
        refine co_then ?_
        refine co_false h186 rfl ?_
        refine wp_skip ?_
        refine co_blockN ?_
        refine co_then ?_
        refine co_reg ?_
        refine pk0 (v := .int .i64 ((i : Nat) : Int)) h186 rfl fun a187 h187 => ?_; clear h186
        refine pk (v := .int .i64 ((i + 1 : Nat) : Int)) h187 rfl (rn_arith' rfl rfl rfl rfl rfl rfl (IntWalk.i64_in _ (by omega)) (by omega)) fun a188 h188 => ?_; clear h187
        refine pk0 (v := .int .i64 ((i + 1 : Nat) : Int)) h188 rfl fun a189 h189 => ?_; clear h188
        refine pl_nil ?_
        refine co_then ?_
        refine ⟨(l.length - (i + 1)), by omega, ?_⟩
        have hlo9 := hlo172
        have hof9 : ∀ i, u.ownBlock = some i → ¬ S166 i := (Grew.offR hx168 hr170 hofA)
        have hks9 : (ksOf (mvF fA lA y151.ts y151.l)).length ≤ 4 * (i + 1) := by have hq9 := hq169; omega
        have hr190 := own_butS hr170 hx168.but hofA
        exact ⟨i + 1, S166, (mvF fA lA y151.ts y151.l), (mvLa lA y151.ts y151.l), (mvCe lA y151.ts cA y151.l), u, h189.sub ⟨rfl, rfl, rfl, rfl, rfl, trivial⟩, rfl, by omega, by omega, by exact hlo9, by exact hks9, by exact hof9, hO167, (row_eq hr190 (hits_stay (MvO.fok hO165) (MvO.kof hO165) (MvO.kof hO167) (by omega))), hB171⟩
       ·
        rw [hc177] at h176
        have hp191 : (mvE lA y151.ts y151.l) = 0 := by first | simpa using hc177 | simpa [and_assoc] using hc177
        clear hc177
        refine dk0 14 (v := v) h176 rfl rfl hB171 fun a192 h192 => ?_; clear h176
        refine dk0 15 (v := .int .i64 ((i : Nat) : Int)) h192 rfl rfl hB171 fun a193 h193 => ?_; clear h192
        refine dk 16 (v := pt (blkOf v) (offOf v + i * 6)) h193 rfl rfl hB171 (fun x hx => (rn_index rfl rfl rfl Try.underlying22 Try.sizeOf34 (hs.below hx) (by omega) (by first | omega | (simp; done) | (simp; omega)))) fun a194 h194 => ?_; clear h193
        refine dk0 17 (v := pt (blkOf v) (offOf v + i * 6 + 1)) h194 rfl rfl hB171 fun a195 h195 => ?_; clear h194
        refine dk 18 (v := .int .u64 y151.ts) h195 rfl rfl hB171 (fun x hx => (rn_load1 rfl rfl Try.isAgg29 ((sl_at (hs.below hx) hy151) 1 _ rfl))) fun a196 h196 => ?_; clear h195
        refine dk0 19 (v := .int .u64 t) h196 rfl rfl hB171 fun a197 h197 => ?_; clear h196
        refine dk0 20 (v := .bool (decide (y151.ts ≤ t))) h197 rfl rfl hB171 fun a198 h198 => ?_; clear h197
        refine dk0 21 (v := .bool (decide (y151.ts ≤ t))) h198 rfl rfl hB171 fun a199 h199 => ?_; clear h198
        refine dr_done (by kernel_rfl) ?_
        refine co_then ?_
        cases hc200 : (decide (y151.ts ≤ t))
        ·
         rw [hc200] at h199
         have hp201 : ¬ (y151.ts ≤ t) := of_decide_eq_false hc200
         clear hc200
         refine co_false h199 rfl ?_
         refine wp_skip ?_
         refine co_blockN ?_
         refine co_then ?_
         refine co_reg ?_
         refine pk0 (v := .int .i64 ((i : Nat) : Int)) h199 rfl fun a202 h202 => ?_; clear h199
         refine pk (v := .int .i64 ((i + 1 : Nat) : Int)) h202 rfl (rn_arith' rfl rfl rfl rfl rfl rfl (IntWalk.i64_in _ (by omega)) (by omega)) fun a203 h203 => ?_; clear h202
         refine pk0 (v := .int .i64 ((i + 1 : Nat) : Int)) h203 rfl fun a204 h204 => ?_; clear h203
         refine pl_nil ?_
         refine co_then ?_
         refine ⟨(l.length - (i + 1)), by omega, ?_⟩
         have hlo9 := hlo172
         have hof9 : ∀ i, u.ownBlock = some i → ¬ S166 i := (Grew.offR hx168 hr170 hofA)
         have hks9 : (ksOf (mvF fA lA y151.ts y151.l)).length ≤ 4 * (i + 1) := by have hq9 := hq169; omega
         have hr205 := own_butS hr170 hx168.but hofA
         exact ⟨i + 1, S166, (mvF fA lA y151.ts y151.l), (mvLa lA y151.ts y151.l), (mvCe lA y151.ts cA y151.l), u, h204.sub ⟨rfl, rfl, rfl, rfl, rfl, trivial⟩, rfl, by omega, by omega, by exact hlo9, by exact hks9, by exact hof9, hO167, (row_eq hr205 (hits_stay (MvO.fok hO165) (MvO.kof hO165) (MvO.kof hO167) (by omega))), hB171⟩
        ·
         rw [hc200] at h199
         have hp206 : y151.ts ≤ t := of_decide_eq_true hc200
         clear hc200
         refine co_true h199 rfl ?_
         refine co_reg ?_
         refine pk0 (v := u) h199 rfl fun a207 h207 => ?_; clear h199
         refine pk0 (v := v) h207 rfl fun a208 h208 => ?_; clear h207
         refine pk0 (v := .int .i64 ((i : Nat) : Int)) h208 rfl fun a209 h209 => ?_; clear h208
         refine pk (v := pt (blkOf v) (offOf v + i * 6)) h209 rfl (rn_index rfl rfl rfl Try.underlying22 Try.sizeOf34 (hs.below hB171) (by omega) (by first | omega | (simp; done) | (simp; omega))) fun a210 h210 => ?_; clear h209
         refine pk0 (v := pt (blkOf v) (offOf v + i * 6 + 2)) h210 rfl fun a211 h211 => ?_; clear h210
         refine pk (v := y151.v) h211 rfl (rn_load1 rfl rfl Try.isAgg32 ((sl_at (hs.below hB171) hy151) 2 _ rfl)) fun a212 h212 => ?_; clear h211
         have ho215 := MvO.ofS hO167
         have hr221 := own_butS hr170 hx168.but hofA
         refine pw h212 rfl (op_call (args := #[u, y151.v]) (R := fun res xw => ∃ (ao : Option Addr) (nn cap : Nat), res = .slice ao nn cap ∧ xw.ownsRow w163.heap.size 51 2 (.slice ao nn cap) (hitsF (mvF fA lA y151.ts y151.l) t ⟨#[]⟩ ⟨#[]⟩).length ((hitsF (mvF fA lA y151.ts y151.l) t ⟨#[]⟩ ⟨#[]⟩).flatMap pairE) ∧ Below w163.heap.size w163 xw) rfl rfl rfl (by kernel_rfl) (by kernel_rfl) (Try.call23 _ _) (mvOver (f := fA) (la := lA) (ts := y151.ts) (t := t) u (y151.v) y151.l w163 (MvO.kof hO165) (MvO.kof hO167) (by omega) (by omega) (row_sl hr221 pairE_len) (oky151.ops.below hB171) (by omega)) (by rintro e x ⟨ao, nn, cap, h0, h⟩; exact ⟨_, h0, ao, nn, cap, rfl, h⟩)) ?_; clear h212
         rintro _ w214 a213 ⟨ao216, nn217, cp218, rfl, hr219, hb220⟩ h213
         have hz222 := hb220.size
         have ho223 := MvO.ofS hO167
         refine pk0 (v := .slice ao216 nn217 cp218) h213 rfl fun a224 h224 => ?_; clear h213
         refine pl_nil ?_
         refine co_blockN ?_
         refine co_then ?_
         refine co_reg ?_
         refine pk0 (v := .int .i64 ((i : Nat) : Int)) h224 rfl fun a225 h225 => ?_; clear h224
         refine pk (v := .int .i64 ((i + 1 : Nat) : Int)) h225 rfl (rn_arith' rfl rfl rfl rfl rfl rfl (IntWalk.i64_in _ (by omega)) (by omega)) fun a226 h226 => ?_; clear h225
         refine pk0 (v := .int .i64 ((i + 1 : Nat) : Int)) h226 rfl fun a227 h227 => ?_; clear h226
         refine pl_nil ?_
         refine co_then ?_
         refine ⟨(l.length - (i + 1)), by omega, ?_⟩
         have hlo9 := hlo172
         have hof9 : ∀ i, (Value.slice ao216 nn217 cp218).ownBlock = some i → ¬ S166 i := (offR_row ho223 hr219 (Nat.le_refl _))
         have hks9 : (ksOf (mvF fA lA y151.ts y151.l)).length ≤ 4 * (i + 1) := by have hq9 := hq169; omega
         have hO228 := MvO.gr hO167 (below_grown hb220) (fun k e => by cases e)
         have hB229 := hb_call hB171 hb220
         exact ⟨i + 1, S166, (mvF fA lA y151.ts y151.l), (mvLa lA y151.ts y151.l), (mvCe lA y151.ts cA y151.l), (.slice ao216 nn217 cp218), h227.sub ⟨rfl, rfl, rfl, rfl, rfl, trivial⟩, rfl, by omega, by omega, by exact hlo9, by exact hks9, by exact hof9, hO228, (row_eq (row_lows hr219 (by omega)) (rfl)), hB229⟩
 · skip
   refine co_enter (n := 70) Try.func6 rfl rfl rfl [(0, v), (1, .int .u64 t)] rfl (fun a h0 => ?_)
   refine co_seq ?_
   refine co_reg ?_
   refine pk0 (v := .bool false) h0 rfl fun a230 h230 => ?_; clear h0
   refine pl_nil ?_
   refine co_then ?_
   refine co_seq ?_
   refine co_seq ?_
   refine co_reg ?_
   refine pk0 (v := v) h230 rfl fun a231 h231 => ?_; clear h230
   refine pw h231 rfl (op_call (args := #[v]) (R := fun res xw => res = .bool (decide (Few l 40)) ∧ Below w.heap.size w xw) rfl rfl rfl (by kernel_rfl) (by kernel_rfl) (Try.call8 _ _) (few16_any v l w (hs.below hB0) (fun z hz => (hok z hz).below hB0)) (by rintro e x ⟨rfl, h⟩; exact ⟨_, rfl, rfl, h⟩)) ?_; clear h231
   rintro _ w233 a232 ⟨rfl, hb234⟩ h232
   have hz235 := hb234.size
   have hc236 : (decide (Few l 40)) = false := by simp [hfew]
   rw [hc236] at h232; clear hc236
   refine pk0 (v := .bool true) h232 rfl fun a237 h237 => ?_; clear h232
   refine pl_nil ?_
   refine co_then ?_
   refine co_true h237 rfl ?_
   refine co_seq ?_
   refine co_reg ?_
   have hB240 := hb_call hB0 hb234
   refine pw h237 rfl (op_call (args := #[]) (R := fun res xw => res = .bool true ∧ Below w233.heap.size w233 xw) rfl rfl rfl (by kernel_rfl) (by kernel_rfl) (Try.call9 _ _) (awake16 w233) (by rintro e x ⟨rfl, h⟩; exact ⟨_, rfl, rfl, h⟩)) ?_; clear h237
   rintro _ w239 a238 ⟨rfl, hb241⟩ h238
   have hz242 := hb241.size
   refine pk0 (v := .bool true) h238 rfl fun a243 h243 => ?_; clear h238
   refine pl_nil ?_
   refine co_then ?_
   refine wp_ret ?_
   refine co_thenR ?_
   refine co_ret1 h243 rfl rfl ?_
   have hB244 := hb_call hB240 hb241
   exact ⟨rfl, hB244⟩

theorem mvccState_l (v : Value) (l : List MActT) (t : Int) (w : World) (hs : SliceOf mactE 6 w v l) (hok : ∀ z ∈ l, MActOk w z) (ht : (Lit.int .u64 t).wf = true) :
    Calls Try.prog 6 #[v, .int .u64 t] w fun e w' => e = .returned (.bool true) ∧ Below w.heap.size w w' := mvccState_law v l t w hs hok (wf_u64 ht)

end Go.Proofs.Ytfjhlckklgeokaa
