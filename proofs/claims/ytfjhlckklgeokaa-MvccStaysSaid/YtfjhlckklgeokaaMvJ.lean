/- MvccStays. Conditions: none. -/
import Derived.Test.YtfjhlckklgeokaaMvH
namespace Go.Proofs.Ytfjhlckklgeokaa
open Go.RowKit Go.PlainAid
set_option linter.unusedVariables false
set_option linter.unusedSimpArgs false


theorem few_cases (l l2 : List MActT) : (Few l 40 ∧ Few l2 40) ∨ ¬ Few l 40 ∨ (Few l 40 ∧ ¬ Few l2 40) := by
  by_cases h : Few l 40
  · by_cases h2 : Few l2 40
    · exact .inl ⟨h, h2⟩
    · exact .inr (.inr ⟨h, h2⟩)
  · exact .inr (.inl h)
section
variable {f g : Fv} {la ts t : Int} {l : List OpT} {n : Nat} {K K' : List ByteArray} {p : ByteArray → Bool} {F T : ByteArray}
theorem mv_keep (h : FOk f la n) (ht : t ≤ la) (x : ByteArray) : atS (mvF f la ts l x) t = atS (f x) t := by
  unfold mvF
  by_cases hE : mvE la ts l = 0
  · obtain ⟨h1, h2, h3⟩ := mv_good hE
    rw [if_pos hE]; exact puts_at (B := la) (n := n) (chkB_up h3) (by omega) x
  · rw [if_neg hE]
theorem has_ne {x : ByteArray} (h : (atS (f x) t).2 = true) : f x ≠ [] := fun e => by rw [e] at h; cases h
theorem hits_same (hK : KOf K f) (hK' : KOf K' g) (h : ∀ x, atS (g x) t = atS (f x) t) : hits g t (K'.filter p) = hits f t (K.filter p) := by
  have e : (K'.filter p).filter (fun k => (atS (g k) t).2) = (K.filter p).filter (fun k => (atS (f k) t).2) :=
    up_ext (key := fun x => x) ((hK'.up.sublist List.filter_sublist).sublist List.filter_sublist) ((hK.up.sublist List.filter_sublist).sublist List.filter_sublist) fun x => by
      simp only [List.mem_filter]
      rw [h x]
      constructor
      · rintro ⟨⟨h1, h2⟩, h3⟩; exact ⟨⟨(hK.mem x).2 (has_ne h3), h2⟩, h3⟩
      · rintro ⟨⟨h1, h2⟩, h3⟩; exact ⟨⟨(hK'.mem x).2 (has_ne (t := t) (by rw [h x]; exact h3)), h2⟩, h3⟩
  unfold hits
  rw [e]
  exact List.map_congr_left fun x _ => by rw [h x]
theorem hits_sameF (hK : KOf (ksOf f) f) (hK' : KOf (ksOf g) g) (h : ∀ x, atS (g x) t = atS (f x) t) : hitsF g t F T = hitsF f t F T := hits_same hK hK' h
end

set_option maxRecDepth 100000 in
set_option maxHeartbeats 6400000 in
theorem mvccStays_law (v : Value) (l : List MActT) (v2 : Value) (l2 : List MActT) (t : Int) (k : ByteArray) (to : ByteArray) (w : World) (hs : SliceOf mactE 6 w v l) (hok : ∀ z ∈ l, MActOk w z) (hs2 : SliceOf mactE 6 w v2 l2) (hok2 : ∀ z ∈ l2, MActOk w z) (ht : 0 ≤ t ∧ t < 18446744073709551616) :
    Calls Try.prog 4 #[v, v2, .int .u64 t, .string k, .string to] w fun e w' => e = .returned (.bool true) ∧ Below w.heap.size w w' := by
 have hB0 := Below.refl w.heap.size w
 have hl_hs := sl_len hs
 have hl_hs2 := sl_len hs2
 rcases few_cases l l2 with ⟨hfew, hfew2⟩ | hfew | ⟨hfew, hfew2⟩
 · skip
   refine co_enter (n := 147) Try.func4 rfl rfl rfl [(0, v), (1, v2), (2, .int .u64 t), (3, .string k), (4, .string to)] rfl (fun a h0 => ?_)
   refine co_seq ?_
   refine co_reg ?_
   refine pk0 (v := .bool false) h0 rfl fun a1 h1 => ?_; clear h0
   refine pl_nil ?_
   refine co_then ?_
   refine co_seq ?_
   refine co_seq ?_
   refine co_reg ?_
   refine pk0 (v := v) h1 rfl fun a2 h2 => ?_; clear h1
   refine pw h2 rfl (op_call (args := #[v]) (R := fun res xw => res = .bool (decide (Few l 40)) ∧ Below w.heap.size w xw) rfl rfl rfl (by kernel_rfl) (by kernel_rfl) (Try.call8 _ _) (few16_any v l w (hs.below hB0) (fun z hz => (hok z hz).below hB0)) (by rintro e x ⟨rfl, h⟩; exact ⟨_, rfl, rfl, h⟩)) ?_; clear h2
   rintro _ w4 a3 ⟨rfl, hb5⟩ h3
   have hz6 := hb5.size
   have hc7 : (decide (Few l 40)) = true := by simp [hfew, hfew2]
   rw [hc7] at h3; clear hc7
   refine pk0 (v := .bool false) h3 rfl fun a8 h8 => ?_; clear h3
   refine pk0 (v := .bool false) h8 rfl fun a9 h9 => ?_; clear h8
   refine pk0 (v := v2) h9 rfl fun a10 h10 => ?_; clear h9
   have hB13 := hb_call hB0 hb5
   refine pw h10 rfl (op_call (args := #[v2]) (R := fun res xw => res = .bool (decide (Few l2 40)) ∧ Below w4.heap.size w4 xw) rfl rfl rfl (by kernel_rfl) (by kernel_rfl) (Try.call8 _ _) (few16_any v2 l2 w4 (hs2.below hB13) (fun z hz => (hok2 z hz).below hB13)) (by rintro e x ⟨rfl, h⟩; exact ⟨_, rfl, rfl, h⟩)) ?_; clear h10
   rintro _ w12 a11 ⟨rfl, hb14⟩ h11
   have hz15 := hb14.size
   have hc16 : (decide (Few l2 40)) = true := by simp [hfew, hfew2]
   rw [hc16] at h11; clear hc16
   refine pk0 (v := .bool false) h11 rfl fun a17 h17 => ?_; clear h11
   refine pk0 (v := .bool false) h17 rfl fun a18 h18 => ?_; clear h17
   refine pl_nil ?_
   refine co_then ?_
   refine co_false h18 rfl ?_
   refine wp_skip ?_
   refine co_then ?_
   refine co_seq ?_
   refine co_reg ?_
   have hB21 := hb_call hB13 hb14
   refine pw h18 rfl (op_call (args := #[]) (R := fun res xw => ∃ N S, res = pt N 0 ∧ MvO S xw N (fun _ => []) 0 0 0 ∧ (∀ q, S q → w12.heap.size ≤ q) ∧ Below w12.heap.size w12 xw) rfl rfl rfl (by kernel_rfl) (by kernel_rfl) (Try.call10 _ _) (mvNew w12) (by rintro e x ⟨N, S, rfl, h⟩; exact ⟨_, rfl, N, S, rfl, h⟩)) ?_; clear h18
   rintro _ w20 a19 ⟨N22, S23, rfl, hO24, hlo25, hb26⟩ h19
   have hz27 := hb26.size
   have hlo28 : ∀ q, S23 q → w.heap.size ≤ q := fun q hq => by have := hlo25 q hq; omega
   refine pk0 (v := pt N22 0) h19 rfl fun a29 h29 => ?_; clear h19
   refine pl_nil ?_
   refine co_then ?_
   refine co_seq ?_
   refine co_seq ?_
   refine co_reg ?_
   refine pk0 (v := .int .i64 0) h29 rfl fun a30 h30 => ?_; clear h29
   refine pl_nil ?_
   refine co_then ?_
   refine wp_block ?_
   have hlo9 := hlo28
   have h31 : Slots 147 [(0, v), (1, v2), (2, .int .u64 t), (3, .string k), (4, .string to), (11, pt N22 0), (12, .int .i64 0)] _ := h30.sub ⟨rfl, rfl, rfl, rfl, rfl, rfl, rfl, trivial⟩; clear h30
   refine co_loop (fun mm a x => ∃ (i : Nat) (SA : Nat → Prop) (fA : Fv) (lA : Int) (cA : Int), Slots 147 [(0, v), (1, v2), (2, .int .u64 t), (3, .string k), (4, .string to), (11, pt N22 0), (12, .int .i64 ((i : Nat) : Int))] a ∧ mm = l.length - i ∧ (i ≤ l.length) ∧ (i ≤ 30) ∧ (∀ q, SA q → w.heap.size ≤ q) ∧ MvO SA x N22 fA lA cA i ∧ Below w.heap.size w x) (l.length - 0) ?_ ?_
   have hB32 := hb_call hB21 hb26
   · exact ⟨0, S23, (fun _ => []), 0, 0, h31.sub ⟨rfl, rfl, rfl, rfl, rfl, rfl, (slot_eq rfl (congrArg (Value.int .i64) (by first | rfl | omega))), trivial⟩, rfl, by omega, by omega, by exact hlo9, hO24, hB32⟩
   · rintro k33 a34 w35 ⟨i, SA, fA, lA, cA, h34, rfl, hi36, hi37, hi38, hf39, hB40⟩
     have hz41 := hB40.size
     have hlo42 : ∀ q, SA q → w.heap.size ≤ q := by assumption
     refine co_seq ?_
     refine co_seq ?_
     refine co_reg ?_
     refine pk0 (v := .int .i64 ((i : Nat) : Int)) h34 rfl fun a43 h43 => ?_; clear h34
     refine pk0 (v := v) h43 rfl fun a44 h44 => ?_; clear h43
     refine pk (v := .int .i64 ((l.length : Nat) : Int)) h44 rfl (rn_len rfl rfl Try.underlying22 (hs.below hB40)) fun a45 h45 => ?_; clear h44
     refine pk0 (v := .bool (decide (((i : Nat) : Int) < ((l.length : Nat) : Int)))) h45 rfl fun a46 h46 => ?_; clear h45
     refine pk0 (v := .bool (decide (((i : Nat) : Int) < ((l.length : Nat) : Int)))) h46 rfl fun a47 h47 => ?_; clear h46
     cases hc48 : (decide (((i : Nat) : Int) < ((l.length : Nat) : Int)))
     ·
      rw [hc48] at h47
      have hp49 : ¬ (((i : Nat) : Int) < ((l.length : Nat) : Int)) := of_decide_eq_false hc48
      clear hc48
      refine psk h47 rfl fun a50 h50 => ?_; clear h47
      refine psk h50 rfl fun a51 h51 => ?_; clear h50
      refine pk0 (v := .bool false) h51 rfl fun a52 h52 => ?_; clear h51
      refine pl_nil ?_
      refine co_then ?_
      refine co_false h52 rfl ?_
      refine wp_exit ?_
      refine co_thenX ?_
      refine co_thenX ?_
      refine co_blockX ?_
      refine co_then ?_
      refine co_seq ?_
      refine co_seq ?_
      refine co_reg ?_
      refine pk0 (v := .int .u64 t) h52 rfl fun a53 h53 => ?_; clear h52
      refine pk0 (v := pt N22 0) h53 rfl fun a54 h54 => ?_; clear h53
      refine pw h54 rfl (op_call (args := #[pt N22 0]) (R := fun res xw => res = .int .u64 lA ∧ w35 = xw) rfl rfl rfl (by kernel_rfl) (by kernel_rfl) (Try.call16 _ _) (mvLast w35 hf39) (by rintro e x ⟨rfl, rfl⟩; exact ⟨_, rfl, rfl, rfl⟩)) ?_; clear h54
      rintro _ _ a55 ⟨rfl, rfl⟩ h55
      refine pk0 (v := .bool (decide (t > lA))) h55 rfl fun a57 h57 => ?_; clear h55
      refine pl_nil ?_
      refine co_then ?_
      cases hc58 : (decide (t > lA))
      ·
       rw [hc58] at h57
       have hp59 : ¬ (t > lA) := of_decide_eq_false hc58
       clear hc58
       refine co_false h57 rfl ?_
       refine wp_skip ?_
       refine co_then ?_
       refine co_seq ?_
       refine co_reg ?_
       refine pk0 (v := pt N22 0) h57 rfl fun a60 h60 => ?_; clear h57
       refine pk0 (v := .string k) h60 rfl fun a61 h61 => ?_; clear h60
       refine pk0 (v := .int .u64 t) h61 rfl fun a62 h62 => ?_; clear h61
       have ho65 := MvO.ofS hf39
       refine pw h62 rfl (op_call (args := #[pt N22 0, .string k, .int .u64 t]) (R := fun res xw => res = .tuple #[.string ((atS (fA k) t).1), .bool ((atS (fA k) t).2)] ∧ Below w35.heap.size w35 xw) rfl rfl rfl (by kernel_rfl) (by kernel_rfl) (Try.call19 _ _) (mvGet w35 k t hf39) (by rintro e x ⟨rfl, h⟩; exact ⟨_, rfl, rfl, h⟩)) ?_; clear h62
       rintro _ w64 a63 ⟨rfl, hb66⟩ h63
       have hz67 := hb66.size
       have ho68 := MvO.ofS hf39
       refine pk0 (v := .tuple #[.string ((atS (fA k) t).1), .bool ((atS (fA k) t).2)]) h63 rfl fun a69 h69 => ?_; clear h63
       refine pk0 (v := .string ((atS (fA k) t).1)) h69 rfl fun a70 h70 => ?_; clear h69
       refine pk0 (v := .bool ((atS (fA k) t).2)) h70 rfl fun a71 h71 => ?_; clear h70
       refine pk0 (v := .string ((atS (fA k) t).1)) h71 rfl fun a72 h72 => ?_; clear h71
       refine pk0 (v := .bool ((atS (fA k) t).2)) h72 rfl fun a73 h73 => ?_; clear h72
       refine pl_nil ?_
       refine co_then ?_
       refine co_seq ?_
       refine co_reg ?_
       refine pk0 (v := pt N22 0) h73 rfl fun a74 h74 => ?_; clear h73
       refine pk0 (v := .string k) h74 rfl fun a75 h75 => ?_; clear h74
       refine pk0 (v := .string to) h75 rfl fun a76 h76 => ?_; clear h75
       refine pk0 (v := .int .u64 t) h76 rfl fun a77 h77 => ?_; clear h76
       have hB80 := hb_call hB40 hb66
       have hO82 := MvO.gr hf39 (below_grown hb66) (fun k e => by cases e)
       have ho81 := MvO.ofS hO82
       refine pw h77 rfl (op_call (args := #[pt N22 0, .string k, .string to, .int .u64 t, .int .i64 1000]) (R := fun res xw => ∃ (ao : Option Addr) (nn cap : Nat), res = .tuple #[.slice ao nn cap, .bool (scanM (hitsF fA t k to) 1000)] ∧ xw.ownsRow w64.heap.size 51 2 (.slice ao nn cap) (scanL (hitsF fA t k to) 1000).length ((scanL (hitsF fA t k to) 1000).flatMap pairE) ∧ Below w64.heap.size w64 xw) rfl rfl rfl (by kernel_rfl) (by kernel_rfl) (Try.call20 _ _) (mvScan w64 k to t 1000 hO82 (by omega) (by omega)) (by rintro e x ⟨u, h0, h⟩; obtain ⟨ao, nn, cap, rfl⟩ := own_sliceT h.1; exact ⟨_, h0, ao, nn, cap, rfl, h⟩)) ?_; clear h77
       rintro _ w79 a78 ⟨ao83, nn84, cp85, rfl, hr86, hb87⟩ h78
       have hz88 := hb87.size
       have ho89 := MvO.ofS hO82
       refine pk0 (v := .tuple #[.slice ao83 nn84 cp85, .bool (scanM (hitsF fA t k to) 1000)]) h78 rfl fun a90 h90 => ?_; clear h78
       refine pk0 (v := .slice ao83 nn84 cp85) h90 rfl fun a91 h91 => ?_; clear h90
       refine pk0 (v := .bool (scanM (hitsF fA t k to) 1000)) h91 rfl fun a92 h92 => ?_; clear h91
       refine pk0 (v := .slice ao83 nn84 cp85) h92 rfl fun a93 h93 => ?_; clear h92
       refine pk0 (v := .bool (scanM (hitsF fA t k to) 1000)) h93 rfl fun a94 h94 => ?_; clear h93
       refine pl_nil ?_
       refine co_then ?_
       refine co_seq ?_
       refine co_seq ?_
       refine co_reg ?_
       refine pk0 (v := .int .i64 0) h94 rfl fun a95 h95 => ?_; clear h94
       refine pl_nil ?_
       refine co_then ?_
       refine wp_block ?_
       have hO96 := MvO.gr hO82 (below_grown hb87) (fun k e => by cases e)
       have hkA := MvO.kof hO96
       have hlo9 := hlo42
       have hor9 : ∀ i, (Value.slice ao83 nn84 cp85).ownBlock = some i → ¬ SA i := (offR_row ho81 hr86 (Nat.le_refl _))
       have hle9 : t ≤ lA := by omega
       have hat9 : ∀ x, atS (fA x) t = atS (fA x) t := fun _ => rfl
       have h97 : Slots 147 [(0, v), (1, v2), (2, .int .u64 t), (3, .string k), (4, .string to), (11, pt N22 0), (13, .string ((atS (fA k) t).1)), (14, .bool ((atS (fA k) t).2)), (15, .slice ao83 nn84 cp85), (16, .bool (scanM (hitsF fA t k to) 1000)), (17, .int .i64 0)] _ := h95.sub ⟨rfl, rfl, rfl, rfl, rfl, rfl, rfl, rfl, rfl, rfl, rfl, trivial⟩; clear h95
       refine co_loop (fun mm a x => ∃ (j : Nat) (SB : Nat → Prop) (fB : Fv) (lB : Int) (cB : Int), Slots 147 [(0, v), (1, v2), (2, .int .u64 t), (3, .string k), (4, .string to), (11, pt N22 0), (13, .string ((atS (fA k) t).1)), (14, .bool ((atS (fA k) t).2)), (15, .slice ao83 nn84 cp85), (16, .bool (scanM (hitsF fA t k to) 1000)), (17, .int .i64 ((j : Nat) : Int))] a ∧ mm = l2.length - j ∧ (j ≤ l2.length) ∧ (j ≤ 30) ∧ (∀ q, SB q → w.heap.size ≤ q) ∧ (t ≤ lB) ∧ (∀ x, atS (fB x) t = atS (fA x) t) ∧ (∀ i, (Value.slice ao83 nn84 cp85).ownBlock = some i → ¬ SB i) ∧ MvO SB x N22 fB lB cB (i + j) ∧ x.ownsRow w64.heap.size 51 2 (.slice ao83 nn84 cp85) (scanL (hitsF fA t k to) 1000).length ((scanL (hitsF fA t k to) 1000).flatMap pairE) ∧ Below w.heap.size w x) (l2.length - 0) ?_ ?_
       have hB98 := hb_call hB80 hb87
       · exact ⟨0, SA, fA, lA, cA, h97.sub ⟨rfl, rfl, rfl, rfl, rfl, rfl, rfl, rfl, rfl, rfl, (slot_eq rfl (congrArg (Value.int .i64) (by first | rfl | omega))), trivial⟩, rfl, by omega, by omega, by exact hlo9, by exact hle9, by exact hat9, by exact hor9, hO96, hr86, hB98⟩
       · rintro k99 a100 w101 ⟨j, SB, fB, lB, cB, h100, rfl, hi102, hi103, hi104, hi105, hi106, hi107, hf108, hf109, hB110⟩
         have hz111 := hB110.size
         have hlo112 : ∀ q, SB q → w.heap.size ≤ q := by assumption
         have hleB : t ≤ lB := by assumption
         have hatB : ∀ x, atS (fB x) t = atS (fA x) t := by assumption
         have horB : ∀ i, (Value.slice ao83 nn84 cp85).ownBlock = some i → ¬ SB i := by assumption
         refine co_seq ?_
         refine co_seq ?_
         refine co_reg ?_
         refine pk0 (v := .int .i64 ((j : Nat) : Int)) h100 rfl fun a113 h113 => ?_; clear h100
         refine pk0 (v := v2) h113 rfl fun a114 h114 => ?_; clear h113
         refine pk (v := .int .i64 ((l2.length : Nat) : Int)) h114 rfl (rn_len rfl rfl Try.underlying22 (hs2.below hB110)) fun a115 h115 => ?_; clear h114
         refine pk0 (v := .bool (decide (((j : Nat) : Int) < ((l2.length : Nat) : Int)))) h115 rfl fun a116 h116 => ?_; clear h115
         refine pk0 (v := .bool (decide (((j : Nat) : Int) < ((l2.length : Nat) : Int)))) h116 rfl fun a117 h117 => ?_; clear h116
         cases hc118 : (decide (((j : Nat) : Int) < ((l2.length : Nat) : Int)))
         ·
          rw [hc118] at h117
          have hp119 : ¬ (((j : Nat) : Int) < ((l2.length : Nat) : Int)) := of_decide_eq_false hc118
          clear hc118
          refine psk h117 rfl fun a120 h120 => ?_; clear h117
          refine psk h120 rfl fun a121 h121 => ?_; clear h120
          refine pk0 (v := .bool false) h121 rfl fun a122 h122 => ?_; clear h121
          refine pl_nil ?_
          refine co_then ?_
          refine co_false h122 rfl ?_
          refine wp_exit ?_
          refine co_thenX ?_
          refine co_thenX ?_
          refine co_blockX ?_
          refine co_then ?_
          refine co_seq ?_
          refine co_reg ?_
          refine pk0 (v := pt N22 0) h122 rfl fun a123 h123 => ?_; clear h122
          refine pk0 (v := .string k) h123 rfl fun a124 h124 => ?_; clear h123
          refine pk0 (v := .int .u64 t) h124 rfl fun a125 h125 => ?_; clear h124
          have ho128 := MvO.ofS hf108
          refine pw h125 rfl (op_call (args := #[pt N22 0, .string k, .int .u64 t]) (R := fun res xw => res = .tuple #[.string ((atS (fA k) t).1), .bool ((atS (fA k) t).2)] ∧ Below w101.heap.size w101 xw) rfl rfl rfl (by kernel_rfl) (by kernel_rfl) (Try.call19 _ _) (mvGet w101 k t hf108) (by rintro e x ⟨rfl, h⟩; rw [hatB]; exact ⟨_, rfl, rfl, h⟩)) ?_; clear h125
          rintro _ w127 a126 ⟨rfl, hb129⟩ h126
          have hz130 := hb129.size
          have ho131 := MvO.ofS hf108
          refine pk0 (v := .tuple #[.string ((atS (fA k) t).1), .bool ((atS (fA k) t).2)]) h126 rfl fun a132 h132 => ?_; clear h126
          refine pk0 (v := .string ((atS (fA k) t).1)) h132 rfl fun a133 h133 => ?_; clear h132
          refine pk0 (v := .bool ((atS (fA k) t).2)) h133 rfl fun a134 h134 => ?_; clear h133
          refine pk0 (v := .string ((atS (fA k) t).1)) h134 rfl fun a135 h135 => ?_; clear h134
          refine pk0 (v := .bool ((atS (fA k) t).2)) h135 rfl fun a136 h136 => ?_; clear h135
          refine pl_nil ?_
          refine co_then ?_
          refine co_seq ?_
          refine co_reg ?_
          refine pk0 (v := pt N22 0) h136 rfl fun a137 h137 => ?_; clear h136
          refine pk0 (v := .string k) h137 rfl fun a138 h138 => ?_; clear h137
          refine pk0 (v := .string to) h138 rfl fun a139 h139 => ?_; clear h138
          refine pk0 (v := .int .u64 t) h139 rfl fun a140 h140 => ?_; clear h139
          have hB143 := hb_call hB110 hb129
          have hO145 := MvO.gr hf108 (below_grown hb129) (fun k e => by cases e)
          have ho144 := MvO.ofS hO145
          refine pw h140 rfl (op_call (args := #[pt N22 0, .string k, .string to, .int .u64 t, .int .i64 1000]) (R := fun res xw => ∃ (ao : Option Addr) (nn cap : Nat), res = .tuple #[.slice ao nn cap, .bool (scanM (hitsF fA t k to) 1000)] ∧ xw.ownsRow w127.heap.size 51 2 (.slice ao nn cap) (scanL (hitsF fA t k to) 1000).length ((scanL (hitsF fA t k to) 1000).flatMap pairE) ∧ Below w127.heap.size w127 xw) rfl rfl rfl (by kernel_rfl) (by kernel_rfl) (Try.call20 _ _) (mvScan w127 k to t 1000 hO145 (by omega) (by omega)) (by rintro e x ⟨u, h0, h⟩; rw [hits_sameF hkA (MvO.kof hO145) hatB] at h0 h; obtain ⟨ao, nn, cap, rfl⟩ := own_sliceT h.1; exact ⟨_, h0, ao, nn, cap, rfl, h⟩)) ?_; clear h140
          rintro _ w142 a141 ⟨ao146, nn147, cp148, rfl, hr149, hb150⟩ h141
          have hz151 := hb150.size
          have ho152 := MvO.ofS hO145
          refine pk0 (v := .tuple #[.slice ao146 nn147 cp148, .bool (scanM (hitsF fA t k to) 1000)]) h141 rfl fun a153 h153 => ?_; clear h141
          refine pk0 (v := .slice ao146 nn147 cp148) h153 rfl fun a154 h154 => ?_; clear h153
          refine pk0 (v := .bool (scanM (hitsF fA t k to) 1000)) h154 rfl fun a155 h155 => ?_; clear h154
          refine pk0 (v := .slice ao146 nn147 cp148) h155 rfl fun a156 h156 => ?_; clear h155
          refine pk0 (v := .bool (scanM (hitsF fA t k to) 1000)) h156 rfl fun a157 h157 => ?_; clear h156
          refine pl_nil ?_
          refine co_then ?_
          refine co_seq ?_
          refine co_reg ?_
          refine pk0 (v := .string ((atS (fA k) t).1)) h157 rfl fun a158 h158 => ?_; clear h157
          refine pk0 (v := .string ((atS (fA k) t).1)) h158 rfl fun a159 h159 => ?_; clear h158
          refine pk0 (v := .bool (((atS (fA k) t).1 : ByteArray).toList == ((atS (fA k) t).1 : ByteArray).toList)) h159 rfl fun a160 h160 => ?_; clear h159
          refine pk0 (v := .bool (((atS (fA k) t).1 : ByteArray).toList == ((atS (fA k) t).1 : ByteArray).toList)) h160 rfl fun a161 h161 => ?_; clear h160
          have hc162 : (((atS (fA k) t).1 : ByteArray).toList == ((atS (fA k) t).1 : ByteArray).toList) = true := by simp
          rw [hc162] at h161; clear hc162
          refine pk0 (v := .bool ((atS (fA k) t).2)) h161 rfl fun a163 h163 => ?_; clear h161
          refine pk0 (v := .bool ((atS (fA k) t).2)) h163 rfl fun a164 h164 => ?_; clear h163
          refine pk0 (v := .bool (((atS (fA k) t).2) == ((atS (fA k) t).2))) h164 rfl fun a165 h165 => ?_; clear h164
          refine pk0 (v := .bool (((atS (fA k) t).2) == ((atS (fA k) t).2))) h165 rfl fun a166 h166 => ?_; clear h165
          refine pk0 (v := .bool (((atS (fA k) t).2) == ((atS (fA k) t).2))) h166 rfl fun a167 h167 => ?_; clear h166
          have hc168 : (((atS (fA k) t).2) == ((atS (fA k) t).2)) = true := by simp
          rw [hc168] at h167; clear hc168
          refine pk0 (v := .slice ao83 nn84 cp85) h167 rfl fun a169 h169 => ?_; clear h167
          refine pk0 (v := .slice ao146 nn147 cp148) h169 rfl fun a170 h170 => ?_; clear h169
          have hB173 := hb_call hB143 hb150
          have hr174 := row_kept_new hf109 (below_grown hb129)
          have hr175 := row_kept_new hr174 (below_grown hb150)
          refine pw h170 rfl (op_call (args := #[.slice ao83 nn84 cp85, .slice ao146 nn147 cp148]) (R := fun res xw => res = .bool true ∧ Below w142.heap.size w142 xw) rfl rfl rfl (by kernel_rfl) (by kernel_rfl) (Try.call21 _ _) (rsamePairs_any (.slice ao83 nn84 cp85) (scanL (hitsF fA t k to) 1000) (.slice ao146 nn147 cp148) (scanL (hitsF fA t k to) 1000) w142 (row_sl hr175 pairE_len) (row_sl hr149 pairE_len)) (by rintro e x ⟨h0, h⟩; rw [sameP_refl] at h0; exact ⟨_, h0, rfl, h⟩)) ?_; clear h170
          rintro _ w172 a171 ⟨rfl, hb176⟩ h171
          have hz177 := hb176.size
          have hO179 := MvO.gr hO145 (below_grown hb150) (fun k e => by cases e)
          have ho178 := MvO.ofS hO179
          refine pk0 (v := .bool true) h171 rfl fun a180 h180 => ?_; clear h171
          refine pk0 (v := .bool true) h180 rfl fun a181 h181 => ?_; clear h180
          refine pk0 (v := .bool (scanM (hitsF fA t k to) 1000)) h181 rfl fun a182 h182 => ?_; clear h181
          refine pk0 (v := .bool (scanM (hitsF fA t k to) 1000)) h182 rfl fun a183 h183 => ?_; clear h182
          refine pk0 (v := .bool ((scanM (hitsF fA t k to) 1000) == (scanM (hitsF fA t k to) 1000))) h183 rfl fun a184 h184 => ?_; clear h183
          refine pk0 (v := .bool ((scanM (hitsF fA t k to) 1000) == (scanM (hitsF fA t k to) 1000))) h184 rfl fun a185 h185 => ?_; clear h184
          refine pk0 (v := .bool ((scanM (hitsF fA t k to) 1000) == (scanM (hitsF fA t k to) 1000))) h185 rfl fun a186 h186 => ?_; clear h185
          have hc187 : ((scanM (hitsF fA t k to) 1000) == (scanM (hitsF fA t k to) 1000)) = true := by simp
          rw [hc187] at h186; clear hc187
          have hB190 := hb_call hB173 hb176
          refine pw h186 rfl (op_call (args := #[]) (R := fun res xw => res = .bool true ∧ Below w172.heap.size w172 xw) rfl rfl rfl (by kernel_rfl) (by kernel_rfl) (Try.call9 _ _) (awake16 w172) (by rintro e x ⟨rfl, h⟩; exact ⟨_, rfl, rfl, h⟩)) ?_; clear h186
          rintro _ w189 a188 ⟨rfl, hb191⟩ h188
          have hz192 := hb191.size
          have hO194 := MvO.gr hO179 (below_grown hb176) (fun k e => by cases e)
          have ho193 := MvO.ofS hO194
          refine pk0 (v := .bool true) h188 rfl fun a195 h195 => ?_; clear h188
          refine pk0 (v := .bool true) h195 rfl fun a196 h196 => ?_; clear h195
          refine pl_nil ?_
          refine co_then ?_
          refine wp_ret ?_
          refine co_ret1 h196 rfl rfl ?_
          have hB197 := hb_call hB190 hb191
          exact ⟨rfl, hB197⟩
         ·
          rw [hc118] at h117
          have hp198 : ((j : Nat) : Int) < ((l2.length : Nat) : Int) := of_decide_eq_true hc118
          clear hc118
          refine pk0 (v := .int .i64 ((j : Nat) : Int)) h117 rfl fun a199 h199 => ?_; clear h117
          refine pk0 (v := .bool (decide (((j : Nat) : Int) < 30))) h199 rfl fun a200 h200 => ?_; clear h199
          refine pk0 (v := .bool (decide (((j : Nat) : Int) < 30))) h200 rfl fun a201 h201 => ?_; clear h200
          refine pl_nil ?_
          refine co_then ?_
          cases hc202 : (decide (((j : Nat) : Int) < 30))
          ·
           rw [hc202] at h201
           have hp203 : ¬ (((j : Nat) : Int) < 30) := of_decide_eq_false hc202
           clear hc202
           refine co_false h201 rfl ?_
           refine wp_exit ?_
           refine co_thenX ?_
           refine co_thenX ?_
           refine co_blockX ?_
           refine co_then ?_
           refine co_seq ?_
           refine co_reg ?_
           refine pk0 (v := pt N22 0) h201 rfl fun a204 h204 => ?_; clear h201
           refine pk0 (v := .string k) h204 rfl fun a205 h205 => ?_; clear h204
           refine pk0 (v := .int .u64 t) h205 rfl fun a206 h206 => ?_; clear h205
           have ho209 := MvO.ofS hf108
           refine pw h206 rfl (op_call (args := #[pt N22 0, .string k, .int .u64 t]) (R := fun res xw => res = .tuple #[.string ((atS (fA k) t).1), .bool ((atS (fA k) t).2)] ∧ Below w101.heap.size w101 xw) rfl rfl rfl (by kernel_rfl) (by kernel_rfl) (Try.call19 _ _) (mvGet w101 k t hf108) (by rintro e x ⟨rfl, h⟩; rw [hatB]; exact ⟨_, rfl, rfl, h⟩)) ?_; clear h206
           rintro _ w208 a207 ⟨rfl, hb210⟩ h207
           have hz211 := hb210.size
           have ho212 := MvO.ofS hf108
           refine pk0 (v := .tuple #[.string ((atS (fA k) t).1), .bool ((atS (fA k) t).2)]) h207 rfl fun a213 h213 => ?_; clear h207
           refine pk0 (v := .string ((atS (fA k) t).1)) h213 rfl fun a214 h214 => ?_; clear h213
           refine pk0 (v := .bool ((atS (fA k) t).2)) h214 rfl fun a215 h215 => ?_; clear h214
           refine pk0 (v := .string ((atS (fA k) t).1)) h215 rfl fun a216 h216 => ?_; clear h215
           refine pk0 (v := .bool ((atS (fA k) t).2)) h216 rfl fun a217 h217 => ?_; clear h216
           refine pl_nil ?_
           refine co_then ?_
           refine co_seq ?_
           refine co_reg ?_
           refine pk0 (v := pt N22 0) h217 rfl fun a218 h218 => ?_; clear h217
           refine pk0 (v := .string k) h218 rfl fun a219 h219 => ?_; clear h218
           refine pk0 (v := .string to) h219 rfl fun a220 h220 => ?_; clear h219
           refine pk0 (v := .int .u64 t) h220 rfl fun a221 h221 => ?_; clear h220
           have hB224 := hb_call hB110 hb210
           have hO226 := MvO.gr hf108 (below_grown hb210) (fun k e => by cases e)
           have ho225 := MvO.ofS hO226
           refine pw h221 rfl (op_call (args := #[pt N22 0, .string k, .string to, .int .u64 t, .int .i64 1000]) (R := fun res xw => ∃ (ao : Option Addr) (nn cap : Nat), res = .tuple #[.slice ao nn cap, .bool (scanM (hitsF fA t k to) 1000)] ∧ xw.ownsRow w208.heap.size 51 2 (.slice ao nn cap) (scanL (hitsF fA t k to) 1000).length ((scanL (hitsF fA t k to) 1000).flatMap pairE) ∧ Below w208.heap.size w208 xw) rfl rfl rfl (by kernel_rfl) (by kernel_rfl) (Try.call20 _ _) (mvScan w208 k to t 1000 hO226 (by omega) (by omega)) (by rintro e x ⟨u, h0, h⟩; rw [hits_sameF hkA (MvO.kof hO226) hatB] at h0 h; obtain ⟨ao, nn, cap, rfl⟩ := own_sliceT h.1; exact ⟨_, h0, ao, nn, cap, rfl, h⟩)) ?_; clear h221
           rintro _ w223 a222 ⟨ao227, nn228, cp229, rfl, hr230, hb231⟩ h222
           have hz232 := hb231.size
           have ho233 := MvO.ofS hO226
           refine pk0 (v := .tuple #[.slice ao227 nn228 cp229, .bool (scanM (hitsF fA t k to) 1000)]) h222 rfl fun a234 h234 => ?_; clear h222
           refine pk0 (v := .slice ao227 nn228 cp229) h234 rfl fun a235 h235 => ?_; clear h234
           refine pk0 (v := .bool (scanM (hitsF fA t k to) 1000)) h235 rfl fun a236 h236 => ?_; clear h235
           refine pk0 (v := .slice ao227 nn228 cp229) h236 rfl fun a237 h237 => ?_; clear h236
           refine pk0 (v := .bool (scanM (hitsF fA t k to) 1000)) h237 rfl fun a238 h238 => ?_; clear h237
           refine pl_nil ?_
           refine co_then ?_
           refine co_seq ?_
           refine co_reg ?_
           refine pk0 (v := .string ((atS (fA k) t).1)) h238 rfl fun a239 h239 => ?_; clear h238
           refine pk0 (v := .string ((atS (fA k) t).1)) h239 rfl fun a240 h240 => ?_; clear h239
           refine pk0 (v := .bool (((atS (fA k) t).1 : ByteArray).toList == ((atS (fA k) t).1 : ByteArray).toList)) h240 rfl fun a241 h241 => ?_; clear h240
           refine pk0 (v := .bool (((atS (fA k) t).1 : ByteArray).toList == ((atS (fA k) t).1 : ByteArray).toList)) h241 rfl fun a242 h242 => ?_; clear h241
           have hc243 : (((atS (fA k) t).1 : ByteArray).toList == ((atS (fA k) t).1 : ByteArray).toList) = true := by simp
           rw [hc243] at h242; clear hc243
           refine pk0 (v := .bool ((atS (fA k) t).2)) h242 rfl fun a244 h244 => ?_; clear h242
           refine pk0 (v := .bool ((atS (fA k) t).2)) h244 rfl fun a245 h245 => ?_; clear h244
           refine pk0 (v := .bool (((atS (fA k) t).2) == ((atS (fA k) t).2))) h245 rfl fun a246 h246 => ?_; clear h245
           refine pk0 (v := .bool (((atS (fA k) t).2) == ((atS (fA k) t).2))) h246 rfl fun a247 h247 => ?_; clear h246
           refine pk0 (v := .bool (((atS (fA k) t).2) == ((atS (fA k) t).2))) h247 rfl fun a248 h248 => ?_; clear h247
           have hc249 : (((atS (fA k) t).2) == ((atS (fA k) t).2)) = true := by simp
           rw [hc249] at h248; clear hc249
           refine pk0 (v := .slice ao83 nn84 cp85) h248 rfl fun a250 h250 => ?_; clear h248
           refine pk0 (v := .slice ao227 nn228 cp229) h250 rfl fun a251 h251 => ?_; clear h250
           have hB254 := hb_call hB224 hb231
           have hr255 := row_kept_new hf109 (below_grown hb210)
           have hr256 := row_kept_new hr255 (below_grown hb231)
           refine pw h251 rfl (op_call (args := #[.slice ao83 nn84 cp85, .slice ao227 nn228 cp229]) (R := fun res xw => res = .bool true ∧ Below w223.heap.size w223 xw) rfl rfl rfl (by kernel_rfl) (by kernel_rfl) (Try.call21 _ _) (rsamePairs_any (.slice ao83 nn84 cp85) (scanL (hitsF fA t k to) 1000) (.slice ao227 nn228 cp229) (scanL (hitsF fA t k to) 1000) w223 (row_sl hr256 pairE_len) (row_sl hr230 pairE_len)) (by rintro e x ⟨h0, h⟩; rw [sameP_refl] at h0; exact ⟨_, h0, rfl, h⟩)) ?_; clear h251
           rintro _ w253 a252 ⟨rfl, hb257⟩ h252
           have hz258 := hb257.size
           have hO260 := MvO.gr hO226 (below_grown hb231) (fun k e => by cases e)
           have ho259 := MvO.ofS hO260
           refine pk0 (v := .bool true) h252 rfl fun a261 h261 => ?_; clear h252
           refine pk0 (v := .bool true) h261 rfl fun a262 h262 => ?_; clear h261
           refine pk0 (v := .bool (scanM (hitsF fA t k to) 1000)) h262 rfl fun a263 h263 => ?_; clear h262
           refine pk0 (v := .bool (scanM (hitsF fA t k to) 1000)) h263 rfl fun a264 h264 => ?_; clear h263
           refine pk0 (v := .bool ((scanM (hitsF fA t k to) 1000) == (scanM (hitsF fA t k to) 1000))) h264 rfl fun a265 h265 => ?_; clear h264
           refine pk0 (v := .bool ((scanM (hitsF fA t k to) 1000) == (scanM (hitsF fA t k to) 1000))) h265 rfl fun a266 h266 => ?_; clear h265
           refine pk0 (v := .bool ((scanM (hitsF fA t k to) 1000) == (scanM (hitsF fA t k to) 1000))) h266 rfl fun a267 h267 => ?_; clear h266
           have hc268 : ((scanM (hitsF fA t k to) 1000) == (scanM (hitsF fA t k to) 1000)) = true := by simp
           rw [hc268] at h267; clear hc268
           have hB271 := hb_call hB254 hb257
           refine pw h267 rfl (op_call (args := #[]) (R := fun res xw => res = .bool true ∧ Below w253.heap.size w253 xw) rfl rfl rfl (by kernel_rfl) (by kernel_rfl) (Try.call9 _ _) (awake16 w253) (by rintro e x ⟨rfl, h⟩; exact ⟨_, rfl, rfl, h⟩)) ?_; clear h267
           rintro _ w270 a269 ⟨rfl, hb272⟩ h269
           have hz273 := hb272.size
           have hO275 := MvO.gr hO260 (below_grown hb257) (fun k e => by cases e)
           have ho274 := MvO.ofS hO275
           refine pk0 (v := .bool true) h269 rfl fun a276 h276 => ?_; clear h269
           refine pk0 (v := .bool true) h276 rfl fun a277 h277 => ?_; clear h276
           refine pl_nil ?_
           refine co_then ?_
           refine wp_ret ?_
           refine co_ret1 h277 rfl rfl ?_
           have hB278 := hb_call hB271 hb272
           exact ⟨rfl, hB278⟩
          ·
           rw [hc202] at h201
           have hp279 : ((j : Nat) : Int) < 30 := of_decide_eq_true hc202
           clear hc202
           refine co_true h201 rfl ?_
           refine wp_skip ?_
           refine co_then ?_
           refine co_seq ?_
           refine wp_block ?_
           refine co_seq ?_
           refine co_reg ?_
           refine pk0 (v := v2) h201 rfl fun a280 h280 => ?_; clear h201
           refine pk0 (v := .int .i64 ((j : Nat) : Int)) h280 rfl fun a281 h281 => ?_; clear h280
           obtain ⟨y282, hy282⟩ : ∃ z, l2[j]? = some z := ⟨_, List.getElem?_eq_getElem (by first | omega | (simp; done) | (simp; omega))⟩
           have oky282 := hok2 _ (List.mem_of_getElem? hy282)
           have k283 : 0 ≤ y282.ts := oky282.t0
           have k284 : y282.ts < 18446744073709551616 := oky282.t1
           refine pk (v := pt (blkOf v2) (offOf v2 + j * 6)) h281 rfl (rn_index rfl rfl rfl Try.underlying22 Try.sizeOf34 (hs2.below hB110) (by omega) (by first | omega | (simp; done) | (simp; omega))) fun a285 h285 => ?_; clear h281
           refine pk0 (v := pt (blkOf v2) (offOf v2 + j * 6)) h285 rfl fun a286 h286 => ?_; clear h285
           refine pk (v := .int .i64 y282.c) h286 rfl (rn_load1 rfl rfl Try.isAgg3 ((sl_at (hs2.below hB110) hy282) 0 _ rfl)) fun a287 h287 => ?_; clear h286
           refine pk0 (v := .bool (y282.c == 3)) h287 rfl fun a288 h288 => ?_; clear h287
           refine pl_nil ?_
           refine co_then ?_
           cases hc289 : (y282.c == 3)
           ·
            rw [hc289] at h288
            have hp290 : ¬ (y282.c = 3) := by first | simpa using hc289 | simpa [and_assoc] using hc289
            clear hc289
            refine co_false h288 rfl ?_
            refine dr_gen (fun x => Below w.heap.size w x) (by kernel_rfl) (fun w291 hg292 => ?_) (fun w291 hg292 => ?_)
            ·
             have hz293 := hg292.size
             have hB294 := hb_new hB110 hg292
             exact hB294
            have hz295 := hg292.size
            have hB296 := hb_new hB110 hg292
            refine dk0 0 (v := pt N22 0) h288 rfl rfl hB296 fun a297 h297 => ?_; clear h288
            refine dk0 1 (v := v2) h297 rfl rfl hB296 fun a298 h298 => ?_; clear h297
            refine dk0 2 (v := .int .i64 ((j : Nat) : Int)) h298 rfl rfl hB296 fun a299 h299 => ?_; clear h298
            refine dk 3 (v := pt (blkOf v2) (offOf v2 + j * 6)) h299 rfl rfl hB296 (fun x hx => (rn_index rfl rfl rfl Try.underlying22 Try.sizeOf34 (hs2.below hx) (by omega) (by first | omega | (simp; done) | (simp; omega)))) fun a300 h300 => ?_; clear h299
            refine dk0 4 (v := pt (blkOf v2) (offOf v2 + j * 6 + 1)) h300 rfl rfl hB296 fun a301 h301 => ?_; clear h300
            refine dk 5 (v := .int .u64 y282.ts) h301 rfl rfl hB296 (fun x hx => (rn_load1 rfl rfl Try.isAgg29 ((sl_at (hs2.below hx) hy282) 1 _ rfl))) fun a302 h302 => ?_; clear h301
            refine dk0 6 (v := v2) h302 rfl rfl hB296 fun a303 h303 => ?_; clear h302
            refine dk0 7 (v := .int .i64 ((j : Nat) : Int)) h303 rfl rfl hB296 fun a304 h304 => ?_; clear h303
            refine dk 8 (v := pt (blkOf v2) (offOf v2 + j * 6)) h304 rfl rfl hB296 (fun x hx => (rn_index rfl rfl rfl Try.underlying22 Try.sizeOf34 (hs2.below hx) (by omega) (by first | omega | (simp; done) | (simp; omega)))) fun a305 h305 => ?_; clear h304
            refine dk0 9 (v := pt (blkOf v2) (offOf v2 + j * 6 + 2)) h305 rfl rfl hB296 fun a306 h306 => ?_; clear h305
            refine dk 10 (v := y282.v) h306 rfl rfl hB296 (fun x hx => (rn_load1 rfl rfl Try.isAgg32 ((sl_at (hs2.below hx) hy282) 2 _ rfl))) fun a307 h307 => ?_; clear h306
            have hO311 := MvO.gr hf108 hg292 (fun k e => by cases e)
            have ho310 := MvO.ofS hO311
            have hfly282 : y282.l.length ≤ 20 := by first | exact Few.at hfew hy282 (by omega) | exact Few.at hfew2 hy282 (by omega)
            refine d1 11 h307 rfl rfl (op_call (args := #[pt N22 0, .int .u64 y282.ts, y282.v]) (R := fun res xw => ∃ S' : Nat → Prop, res = .int .i64 (mvE lB y282.ts y282.l) ∧ MvO S' xw N22 (mvF fB lB y282.ts y282.l) (mvLa lB y282.ts y282.l) (mvCe lB y282.ts cB y282.l) (i + j + 1) ∧ Grew SB S' w291 xw) rfl rfl rfl (by kernel_rfl) (by kernel_rfl) (Try.call11 _ _) (mvPut w291 y282.ts (y282.v) y282.l hO311 (oky282.ops.below hB296) (sl_off oky282.ops (opE_ne _) hlo112) (by omega) ⟨by omega, by omega⟩ (by omega)) (by rintro e x ⟨S', h0, h⟩; exact ⟨_, h0, S', rfl, h⟩)) ?_ ?_; clear h307
            ·
             rintro _ w309 ⟨S312, rfl, hO313, hx314⟩
             have hr315 := row_kept_new hf109 hg292
             have hlo317 : ∀ q, S312 q → w.heap.size ≤ q := hx314.lo hlo112 (by omega)
             have hB316 := hbL hB296 hlo112 hx314.but
             have hz318 := hB316.size
             have hz319 := hx314.but.size
             exact hB316
            rintro _ w309 a308 ⟨S312, rfl, hO313, hx314⟩ h308
            have hr315 := row_kept_new hf109 hg292
            have hlo317 : ∀ q, S312 q → w.heap.size ≤ q := hx314.lo hlo112 (by omega)
            have hB316 := hbL hB296 hlo112 hx314.but
            have hz318 := hB316.size
            have hz319 := hx314.but.size
            refine dr_done (by kernel_rfl) ?_
            refine co_blockN ?_
            refine co_then ?_
            refine co_reg ?_
            refine pk0 (v := .int .i64 ((j : Nat) : Int)) h308 rfl fun a320 h320 => ?_; clear h308
            refine pk (v := .int .i64 ((j + 1 : Nat) : Int)) h320 rfl (rn_arith' rfl rfl rfl rfl rfl rfl (IntWalk.i64_in _ (by omega)) (by omega)) fun a321 h321 => ?_; clear h320
            refine pk0 (v := .int .i64 ((j + 1 : Nat) : Int)) h321 rfl fun a322 h322 => ?_; clear h321
            refine pl_nil ?_
            refine co_then ?_
            refine ⟨(l2.length - (j + 1)), by omega, ?_⟩
            have hlo9 := hlo317
            have hor9 : ∀ i, (Value.slice ao83 nn84 cp85).ownBlock = some i → ¬ S312 i := (Grew.offR hx314 hr315 horB)
            have hle9 := Int.le_trans hleB (mvLa_bd (ts := y282.ts) (l := y282.l) (MvO.laB hO311) ⟨by omega, by omega⟩).2
            have hat9 := fun x => (mv_keep (ts := y282.ts) (l := y282.l) (MvO.fok hO311) hleB x).trans (hatB x)
            have hr323 := own_butS hr315 hx314.but horB
            exact ⟨j + 1, S312, (mvF fB lB y282.ts y282.l), (mvLa lB y282.ts y282.l), (mvCe lB y282.ts cB y282.l), h322.sub ⟨rfl, rfl, rfl, rfl, rfl, rfl, rfl, rfl, rfl, rfl, rfl, trivial⟩, rfl, by omega, by omega, by exact hlo9, by exact hle9, by exact hat9, by exact hor9, hO313, hr323, hB316⟩
           ·
            rw [hc289] at h288
            have hp324 : y282.c = 3 := by first | simpa using hc289 | simpa [and_assoc] using hc289
            clear hc289
            refine co_true h288 rfl ?_
            refine co_reg ?_
            refine pk0 (v := pt N22 0) h288 rfl fun a325 h325 => ?_; clear h288
            refine pk0 (v := v2) h325 rfl fun a326 h326 => ?_; clear h325
            refine pk0 (v := .int .i64 ((j : Nat) : Int)) h326 rfl fun a327 h327 => ?_; clear h326
            refine pk (v := pt (blkOf v2) (offOf v2 + j * 6)) h327 rfl (rn_index rfl rfl rfl Try.underlying22 Try.sizeOf34 (hs2.below hB110) (by omega) (by first | omega | (simp; done) | (simp; omega))) fun a328 h328 => ?_; clear h327
            refine pk0 (v := pt (blkOf v2) (offOf v2 + j * 6 + 1)) h328 rfl fun a329 h329 => ?_; clear h328
            refine pk (v := .int .u64 y282.ts) h329 rfl (rn_load1 rfl rfl Try.isAgg29 ((sl_at (hs2.below hB110) hy282) 1 _ rfl)) fun a330 h330 => ?_; clear h329
            refine pk0 (v := .int .u64 t) h330 rfl fun a331 h331 => ?_; clear h330
            obtain ⟨kp332, hkp333⟩ : ∃ z : Int, z = (if t < y282.ts then t else y282.ts) := ⟨_, rfl⟩
            have hq334 : kp332 ≤ y282.ts ∧ kp332 ≤ t ∧ (kp332 = y282.ts ∨ kp332 = t) := by rw [hkp333]; split <;> omega
            refine pk (v := .int .u64 kp332) h331 rfl (by rw [hkp333]; kernel_rfl) fun a335 h335 => ?_; clear h331
            have ho338 := MvO.ofS hf108
            refine pw h335 rfl (op_call (args := #[pt N22 0, .int .u64 kp332]) (R := fun res xw => ∃ g' : Int, ∃ S' : Nat → Prop, res = .int .i64 g' ∧ MvO S' xw N22 (pruneF fB kp332) lB (cB - g') (i + j + 1) ∧ Grew SB S' w101 xw) rfl rfl rfl (by kernel_rfl) (by kernel_rfl) (Try.call13 _ _) (mvPrune w101 kp332 hf108 ⟨by omega, by omega⟩ (by omega)) (by rintro e x ⟨g', S', h0, h⟩; exact ⟨_, h0, g', S', rfl, h⟩)) ?_; clear h335
            rintro _ w337 a336 ⟨g'339, S340, rfl, hO341, hx342⟩ h336
            have hlo344 : ∀ q, S340 q → w.heap.size ≤ q := hx342.lo hlo112 (by omega)
            have hB343 := hbL hB110 hlo112 hx342.but
            have hz345 := hB343.size
            have hz346 := hx342.but.size
            refine pl_nil ?_
            refine co_blockN ?_
            refine co_then ?_
            refine co_reg ?_
            refine pk0 (v := .int .i64 ((j : Nat) : Int)) h336 rfl fun a347 h347 => ?_; clear h336
            refine pk (v := .int .i64 ((j + 1 : Nat) : Int)) h347 rfl (rn_arith' rfl rfl rfl rfl rfl rfl (IntWalk.i64_in _ (by omega)) (by omega)) fun a348 h348 => ?_; clear h347
            refine pk0 (v := .int .i64 ((j + 1 : Nat) : Int)) h348 rfl fun a349 h349 => ?_; clear h348
            refine pl_nil ?_
            refine co_then ?_
            refine ⟨(l2.length - (j + 1)), by omega, ?_⟩
            have hlo9 := hlo344
            have hor9 : ∀ i, (Value.slice ao83 nn84 cp85).ownBlock = some i → ¬ S340 i := (Grew.offR hx342 hf109 horB)
            have hle9 := hleB
            have hat9 := fun x => (prune_at (MvO.fok hf108) (by omega : kp332 ≤ t) x).trans (hatB x)
            have hr350 := own_butS hf109 hx342.but horB
            exact ⟨j + 1, S340, (pruneF fB kp332), lB, (cB - g'339), h349.sub ⟨rfl, rfl, rfl, rfl, rfl, rfl, rfl, rfl, rfl, rfl, rfl, trivial⟩, rfl, by omega, by omega, by exact hlo9, by exact hle9, by exact hat9, by exact hor9, hO341, hr350, hB343⟩
      ·
       rw [hc58] at h57
       have hp351 : t > lA := of_decide_eq_true hc58
       clear hc58
       refine co_true h57 rfl ?_
       refine co_seq ?_
       refine co_reg ?_
       refine pw h57 rfl (op_call (args := #[]) (R := fun res xw => res = .bool true ∧ Below w35.heap.size w35 xw) rfl rfl rfl (by kernel_rfl) (by kernel_rfl) (Try.call9 _ _) (awake16 w35) (by rintro e x ⟨rfl, h⟩; exact ⟨_, rfl, rfl, h⟩)) ?_; clear h57
       rintro _ w353 a352 ⟨rfl, hb354⟩ h352
       have hz355 := hb354.size
       have ho356 := MvO.ofS hf39
       refine pk0 (v := .bool true) h352 rfl fun a357 h357 => ?_; clear h352
       refine pl_nil ?_
       refine co_then ?_
       refine wp_ret ?_
       refine co_thenR ?_
       refine co_ret1 h357 rfl rfl ?_
       have hB358 := hb_call hB40 hb354
       exact ⟨rfl, hB358⟩
     ·
      rw [hc48] at h47
      have hp359 : ((i : Nat) : Int) < ((l.length : Nat) : Int) := of_decide_eq_true hc48
      clear hc48
      refine pk0 (v := .int .i64 ((i : Nat) : Int)) h47 rfl fun a360 h360 => ?_; clear h47
      refine pk0 (v := .bool (decide (((i : Nat) : Int) < 30))) h360 rfl fun a361 h361 => ?_; clear h360
      refine pk0 (v := .bool (decide (((i : Nat) : Int) < 30))) h361 rfl fun a362 h362 => ?_; clear h361
      refine pl_nil ?_
      refine co_then ?_
      cases hc363 : (decide (((i : Nat) : Int) < 30))
      ·
       rw [hc363] at h362
       have hp364 : ¬ (((i : Nat) : Int) < 30) := of_decide_eq_false hc363
       clear hc363
       refine co_false h362 rfl ?_
       refine wp_exit ?_
       refine co_thenX ?_
       refine co_thenX ?_
       refine co_blockX ?_
       refine co_then ?_
       refine co_seq ?_
       refine co_seq ?_
       refine co_reg ?_
       refine pk0 (v := .int .u64 t) h362 rfl fun a365 h365 => ?_; clear h362
       refine pk0 (v := pt N22 0) h365 rfl fun a366 h366 => ?_; clear h365
       refine pw h366 rfl (op_call (args := #[pt N22 0]) (R := fun res xw => res = .int .u64 lA ∧ w35 = xw) rfl rfl rfl (by kernel_rfl) (by kernel_rfl) (Try.call16 _ _) (mvLast w35 hf39) (by rintro e x ⟨rfl, rfl⟩; exact ⟨_, rfl, rfl, rfl⟩)) ?_; clear h366
       rintro _ _ a367 ⟨rfl, rfl⟩ h367
       refine pk0 (v := .bool (decide (t > lA))) h367 rfl fun a369 h369 => ?_; clear h367
       refine pl_nil ?_
       refine co_then ?_
       cases hc370 : (decide (t > lA))
       ·
        rw [hc370] at h369
        have hp371 : ¬ (t > lA) := of_decide_eq_false hc370
        clear hc370
        refine co_false h369 rfl ?_
        refine wp_skip ?_
        refine co_then ?_
        refine co_seq ?_
        refine co_reg ?_
        refine pk0 (v := pt N22 0) h369 rfl fun a372 h372 => ?_; clear h369
        refine pk0 (v := .string k) h372 rfl fun a373 h373 => ?_; clear h372
        refine pk0 (v := .int .u64 t) h373 rfl fun a374 h374 => ?_; clear h373
        have ho377 := MvO.ofS hf39
        refine pw h374 rfl (op_call (args := #[pt N22 0, .string k, .int .u64 t]) (R := fun res xw => res = .tuple #[.string ((atS (fA k) t).1), .bool ((atS (fA k) t).2)] ∧ Below w35.heap.size w35 xw) rfl rfl rfl (by kernel_rfl) (by kernel_rfl) (Try.call19 _ _) (mvGet w35 k t hf39) (by rintro e x ⟨rfl, h⟩; exact ⟨_, rfl, rfl, h⟩)) ?_; clear h374
        rintro _ w376 a375 ⟨rfl, hb378⟩ h375
        have hz379 := hb378.size
        have ho380 := MvO.ofS hf39
        refine pk0 (v := .tuple #[.string ((atS (fA k) t).1), .bool ((atS (fA k) t).2)]) h375 rfl fun a381 h381 => ?_; clear h375
        refine pk0 (v := .string ((atS (fA k) t).1)) h381 rfl fun a382 h382 => ?_; clear h381
        refine pk0 (v := .bool ((atS (fA k) t).2)) h382 rfl fun a383 h383 => ?_; clear h382
        refine pk0 (v := .string ((atS (fA k) t).1)) h383 rfl fun a384 h384 => ?_; clear h383
        refine pk0 (v := .bool ((atS (fA k) t).2)) h384 rfl fun a385 h385 => ?_; clear h384
        refine pl_nil ?_
        refine co_then ?_
        refine co_seq ?_
        refine co_reg ?_
        refine pk0 (v := pt N22 0) h385 rfl fun a386 h386 => ?_; clear h385
        refine pk0 (v := .string k) h386 rfl fun a387 h387 => ?_; clear h386
        refine pk0 (v := .string to) h387 rfl fun a388 h388 => ?_; clear h387
        refine pk0 (v := .int .u64 t) h388 rfl fun a389 h389 => ?_; clear h388
        have hB392 := hb_call hB40 hb378
        have hO394 := MvO.gr hf39 (below_grown hb378) (fun k e => by cases e)
        have ho393 := MvO.ofS hO394
        refine pw h389 rfl (op_call (args := #[pt N22 0, .string k, .string to, .int .u64 t, .int .i64 1000]) (R := fun res xw => ∃ (ao : Option Addr) (nn cap : Nat), res = .tuple #[.slice ao nn cap, .bool (scanM (hitsF fA t k to) 1000)] ∧ xw.ownsRow w376.heap.size 51 2 (.slice ao nn cap) (scanL (hitsF fA t k to) 1000).length ((scanL (hitsF fA t k to) 1000).flatMap pairE) ∧ Below w376.heap.size w376 xw) rfl rfl rfl (by kernel_rfl) (by kernel_rfl) (Try.call20 _ _) (mvScan w376 k to t 1000 hO394 (by omega) (by omega)) (by rintro e x ⟨u, h0, h⟩; obtain ⟨ao, nn, cap, rfl⟩ := own_sliceT h.1; exact ⟨_, h0, ao, nn, cap, rfl, h⟩)) ?_; clear h389
        rintro _ w391 a390 ⟨ao395, nn396, cp397, rfl, hr398, hb399⟩ h390
        have hz400 := hb399.size
        have ho401 := MvO.ofS hO394
        refine pk0 (v := .tuple #[.slice ao395 nn396 cp397, .bool (scanM (hitsF fA t k to) 1000)]) h390 rfl fun a402 h402 => ?_; clear h390
        refine pk0 (v := .slice ao395 nn396 cp397) h402 rfl fun a403 h403 => ?_; clear h402
        refine pk0 (v := .bool (scanM (hitsF fA t k to) 1000)) h403 rfl fun a404 h404 => ?_; clear h403
        refine pk0 (v := .slice ao395 nn396 cp397) h404 rfl fun a405 h405 => ?_; clear h404
        refine pk0 (v := .bool (scanM (hitsF fA t k to) 1000)) h405 rfl fun a406 h406 => ?_; clear h405
        refine pl_nil ?_
        refine co_then ?_
        refine co_seq ?_
        refine co_seq ?_
        refine co_reg ?_
        refine pk0 (v := .int .i64 0) h406 rfl fun a407 h407 => ?_; clear h406
        refine pl_nil ?_
        refine co_then ?_
        refine wp_block ?_
        have hO408 := MvO.gr hO394 (below_grown hb399) (fun k e => by cases e)
        have hkA := MvO.kof hO408
        have hlo9 := hlo42
        have hor9 : ∀ i, (Value.slice ao395 nn396 cp397).ownBlock = some i → ¬ SA i := (offR_row ho393 hr398 (Nat.le_refl _))
        have hle9 : t ≤ lA := by omega
        have hat9 : ∀ x, atS (fA x) t = atS (fA x) t := fun _ => rfl
        have h409 : Slots 147 [(0, v), (1, v2), (2, .int .u64 t), (3, .string k), (4, .string to), (11, pt N22 0), (13, .string ((atS (fA k) t).1)), (14, .bool ((atS (fA k) t).2)), (15, .slice ao395 nn396 cp397), (16, .bool (scanM (hitsF fA t k to) 1000)), (17, .int .i64 0)] _ := h407.sub ⟨rfl, rfl, rfl, rfl, rfl, rfl, rfl, rfl, rfl, rfl, rfl, trivial⟩; clear h407
        refine co_loop (fun mm a x => ∃ (j : Nat) (SB : Nat → Prop) (fB : Fv) (lB : Int) (cB : Int), Slots 147 [(0, v), (1, v2), (2, .int .u64 t), (3, .string k), (4, .string to), (11, pt N22 0), (13, .string ((atS (fA k) t).1)), (14, .bool ((atS (fA k) t).2)), (15, .slice ao395 nn396 cp397), (16, .bool (scanM (hitsF fA t k to) 1000)), (17, .int .i64 ((j : Nat) : Int))] a ∧ mm = l2.length - j ∧ (j ≤ l2.length) ∧ (j ≤ 30) ∧ (∀ q, SB q → w.heap.size ≤ q) ∧ (t ≤ lB) ∧ (∀ x, atS (fB x) t = atS (fA x) t) ∧ (∀ i, (Value.slice ao395 nn396 cp397).ownBlock = some i → ¬ SB i) ∧ MvO SB x N22 fB lB cB (i + j) ∧ x.ownsRow w376.heap.size 51 2 (.slice ao395 nn396 cp397) (scanL (hitsF fA t k to) 1000).length ((scanL (hitsF fA t k to) 1000).flatMap pairE) ∧ Below w.heap.size w x) (l2.length - 0) ?_ ?_
        have hB410 := hb_call hB392 hb399
        · exact ⟨0, SA, fA, lA, cA, h409.sub ⟨rfl, rfl, rfl, rfl, rfl, rfl, rfl, rfl, rfl, rfl, (slot_eq rfl (congrArg (Value.int .i64) (by first | rfl | omega))), trivial⟩, rfl, by omega, by omega, by exact hlo9, by exact hle9, by exact hat9, by exact hor9, hO408, hr398, hB410⟩
        · rintro k411 a412 w413 ⟨j, SB, fB, lB, cB, h412, rfl, hi414, hi415, hi416, hi417, hi418, hi419, hf420, hf421, hB422⟩
          have hz423 := hB422.size
          have hlo424 : ∀ q, SB q → w.heap.size ≤ q := by assumption
          have hleB : t ≤ lB := by assumption
          have hatB : ∀ x, atS (fB x) t = atS (fA x) t := by assumption
          have horB : ∀ i, (Value.slice ao395 nn396 cp397).ownBlock = some i → ¬ SB i := by assumption
          refine co_seq ?_
          refine co_seq ?_
          refine co_reg ?_
          refine pk0 (v := .int .i64 ((j : Nat) : Int)) h412 rfl fun a425 h425 => ?_; clear h412
          refine pk0 (v := v2) h425 rfl fun a426 h426 => ?_; clear h425
          refine pk (v := .int .i64 ((l2.length : Nat) : Int)) h426 rfl (rn_len rfl rfl Try.underlying22 (hs2.below hB422)) fun a427 h427 => ?_; clear h426
          refine pk0 (v := .bool (decide (((j : Nat) : Int) < ((l2.length : Nat) : Int)))) h427 rfl fun a428 h428 => ?_; clear h427
          refine pk0 (v := .bool (decide (((j : Nat) : Int) < ((l2.length : Nat) : Int)))) h428 rfl fun a429 h429 => ?_; clear h428
          cases hc430 : (decide (((j : Nat) : Int) < ((l2.length : Nat) : Int)))
          ·
           rw [hc430] at h429
           have hp431 : ¬ (((j : Nat) : Int) < ((l2.length : Nat) : Int)) := of_decide_eq_false hc430
           clear hc430
           refine psk h429 rfl fun a432 h432 => ?_; clear h429
           refine psk h432 rfl fun a433 h433 => ?_; clear h432
           refine pk0 (v := .bool false) h433 rfl fun a434 h434 => ?_; clear h433
           refine pl_nil ?_
           refine co_then ?_
           refine co_false h434 rfl ?_
           refine wp_exit ?_
           refine co_thenX ?_
           refine co_thenX ?_
           refine co_blockX ?_
           refine co_then ?_
           refine co_seq ?_
           refine co_reg ?_
           refine pk0 (v := pt N22 0) h434 rfl fun a435 h435 => ?_; clear h434
           refine pk0 (v := .string k) h435 rfl fun a436 h436 => ?_; clear h435
           refine pk0 (v := .int .u64 t) h436 rfl fun a437 h437 => ?_; clear h436
           have ho440 := MvO.ofS hf420
           refine pw h437 rfl (op_call (args := #[pt N22 0, .string k, .int .u64 t]) (R := fun res xw => res = .tuple #[.string ((atS (fA k) t).1), .bool ((atS (fA k) t).2)] ∧ Below w413.heap.size w413 xw) rfl rfl rfl (by kernel_rfl) (by kernel_rfl) (Try.call19 _ _) (mvGet w413 k t hf420) (by rintro e x ⟨rfl, h⟩; rw [hatB]; exact ⟨_, rfl, rfl, h⟩)) ?_; clear h437
           rintro _ w439 a438 ⟨rfl, hb441⟩ h438
           have hz442 := hb441.size
           have ho443 := MvO.ofS hf420
           refine pk0 (v := .tuple #[.string ((atS (fA k) t).1), .bool ((atS (fA k) t).2)]) h438 rfl fun a444 h444 => ?_; clear h438
           refine pk0 (v := .string ((atS (fA k) t).1)) h444 rfl fun a445 h445 => ?_; clear h444
           refine pk0 (v := .bool ((atS (fA k) t).2)) h445 rfl fun a446 h446 => ?_; clear h445
           refine pk0 (v := .string ((atS (fA k) t).1)) h446 rfl fun a447 h447 => ?_; clear h446
           refine pk0 (v := .bool ((atS (fA k) t).2)) h447 rfl fun a448 h448 => ?_; clear h447
           refine pl_nil ?_
           refine co_then ?_
           refine co_seq ?_
           refine co_reg ?_
           refine pk0 (v := pt N22 0) h448 rfl fun a449 h449 => ?_; clear h448
           refine pk0 (v := .string k) h449 rfl fun a450 h450 => ?_; clear h449
           refine pk0 (v := .string to) h450 rfl fun a451 h451 => ?_; clear h450
           refine pk0 (v := .int .u64 t) h451 rfl fun a452 h452 => ?_; clear h451
           have hB455 := hb_call hB422 hb441
           have hO457 := MvO.gr hf420 (below_grown hb441) (fun k e => by cases e)
           have ho456 := MvO.ofS hO457
           refine pw h452 rfl (op_call (args := #[pt N22 0, .string k, .string to, .int .u64 t, .int .i64 1000]) (R := fun res xw => ∃ (ao : Option Addr) (nn cap : Nat), res = .tuple #[.slice ao nn cap, .bool (scanM (hitsF fA t k to) 1000)] ∧ xw.ownsRow w439.heap.size 51 2 (.slice ao nn cap) (scanL (hitsF fA t k to) 1000).length ((scanL (hitsF fA t k to) 1000).flatMap pairE) ∧ Below w439.heap.size w439 xw) rfl rfl rfl (by kernel_rfl) (by kernel_rfl) (Try.call20 _ _) (mvScan w439 k to t 1000 hO457 (by omega) (by omega)) (by rintro e x ⟨u, h0, h⟩; rw [hits_sameF hkA (MvO.kof hO457) hatB] at h0 h; obtain ⟨ao, nn, cap, rfl⟩ := own_sliceT h.1; exact ⟨_, h0, ao, nn, cap, rfl, h⟩)) ?_; clear h452
           rintro _ w454 a453 ⟨ao458, nn459, cp460, rfl, hr461, hb462⟩ h453
           have hz463 := hb462.size
           have ho464 := MvO.ofS hO457
           refine pk0 (v := .tuple #[.slice ao458 nn459 cp460, .bool (scanM (hitsF fA t k to) 1000)]) h453 rfl fun a465 h465 => ?_; clear h453
           refine pk0 (v := .slice ao458 nn459 cp460) h465 rfl fun a466 h466 => ?_; clear h465
           refine pk0 (v := .bool (scanM (hitsF fA t k to) 1000)) h466 rfl fun a467 h467 => ?_; clear h466
           refine pk0 (v := .slice ao458 nn459 cp460) h467 rfl fun a468 h468 => ?_; clear h467
           refine pk0 (v := .bool (scanM (hitsF fA t k to) 1000)) h468 rfl fun a469 h469 => ?_; clear h468
           refine pl_nil ?_
           refine co_then ?_
           refine co_seq ?_
           refine co_reg ?_
           refine pk0 (v := .string ((atS (fA k) t).1)) h469 rfl fun a470 h470 => ?_; clear h469
           refine pk0 (v := .string ((atS (fA k) t).1)) h470 rfl fun a471 h471 => ?_; clear h470
           refine pk0 (v := .bool (((atS (fA k) t).1 : ByteArray).toList == ((atS (fA k) t).1 : ByteArray).toList)) h471 rfl fun a472 h472 => ?_; clear h471
           refine pk0 (v := .bool (((atS (fA k) t).1 : ByteArray).toList == ((atS (fA k) t).1 : ByteArray).toList)) h472 rfl fun a473 h473 => ?_; clear h472
           have hc474 : (((atS (fA k) t).1 : ByteArray).toList == ((atS (fA k) t).1 : ByteArray).toList) = true := by simp
           rw [hc474] at h473; clear hc474
           refine pk0 (v := .bool ((atS (fA k) t).2)) h473 rfl fun a475 h475 => ?_; clear h473
           refine pk0 (v := .bool ((atS (fA k) t).2)) h475 rfl fun a476 h476 => ?_; clear h475
           refine pk0 (v := .bool (((atS (fA k) t).2) == ((atS (fA k) t).2))) h476 rfl fun a477 h477 => ?_; clear h476
           refine pk0 (v := .bool (((atS (fA k) t).2) == ((atS (fA k) t).2))) h477 rfl fun a478 h478 => ?_; clear h477
           refine pk0 (v := .bool (((atS (fA k) t).2) == ((atS (fA k) t).2))) h478 rfl fun a479 h479 => ?_; clear h478
           have hc480 : (((atS (fA k) t).2) == ((atS (fA k) t).2)) = true := by simp
           rw [hc480] at h479; clear hc480
           refine pk0 (v := .slice ao395 nn396 cp397) h479 rfl fun a481 h481 => ?_; clear h479
           refine pk0 (v := .slice ao458 nn459 cp460) h481 rfl fun a482 h482 => ?_; clear h481
           have hB485 := hb_call hB455 hb462
           have hr486 := row_kept_new hf421 (below_grown hb441)
           have hr487 := row_kept_new hr486 (below_grown hb462)
           refine pw h482 rfl (op_call (args := #[.slice ao395 nn396 cp397, .slice ao458 nn459 cp460]) (R := fun res xw => res = .bool true ∧ Below w454.heap.size w454 xw) rfl rfl rfl (by kernel_rfl) (by kernel_rfl) (Try.call21 _ _) (rsamePairs_any (.slice ao395 nn396 cp397) (scanL (hitsF fA t k to) 1000) (.slice ao458 nn459 cp460) (scanL (hitsF fA t k to) 1000) w454 (row_sl hr487 pairE_len) (row_sl hr461 pairE_len)) (by rintro e x ⟨h0, h⟩; rw [sameP_refl] at h0; exact ⟨_, h0, rfl, h⟩)) ?_; clear h482
           rintro _ w484 a483 ⟨rfl, hb488⟩ h483
           have hz489 := hb488.size
           have hO491 := MvO.gr hO457 (below_grown hb462) (fun k e => by cases e)
           have ho490 := MvO.ofS hO491
           refine pk0 (v := .bool true) h483 rfl fun a492 h492 => ?_; clear h483
           refine pk0 (v := .bool true) h492 rfl fun a493 h493 => ?_; clear h492
           refine pk0 (v := .bool (scanM (hitsF fA t k to) 1000)) h493 rfl fun a494 h494 => ?_; clear h493
           refine pk0 (v := .bool (scanM (hitsF fA t k to) 1000)) h494 rfl fun a495 h495 => ?_; clear h494
           refine pk0 (v := .bool ((scanM (hitsF fA t k to) 1000) == (scanM (hitsF fA t k to) 1000))) h495 rfl fun a496 h496 => ?_; clear h495
           refine pk0 (v := .bool ((scanM (hitsF fA t k to) 1000) == (scanM (hitsF fA t k to) 1000))) h496 rfl fun a497 h497 => ?_; clear h496
           refine pk0 (v := .bool ((scanM (hitsF fA t k to) 1000) == (scanM (hitsF fA t k to) 1000))) h497 rfl fun a498 h498 => ?_; clear h497
           have hc499 : ((scanM (hitsF fA t k to) 1000) == (scanM (hitsF fA t k to) 1000)) = true := by simp
           rw [hc499] at h498; clear hc499
           have hB502 := hb_call hB485 hb488
           refine pw h498 rfl (op_call (args := #[]) (R := fun res xw => res = .bool true ∧ Below w484.heap.size w484 xw) rfl rfl rfl (by kernel_rfl) (by kernel_rfl) (Try.call9 _ _) (awake16 w484) (by rintro e x ⟨rfl, h⟩; exact ⟨_, rfl, rfl, h⟩)) ?_; clear h498
           rintro _ w501 a500 ⟨rfl, hb503⟩ h500
           have hz504 := hb503.size
           have hO506 := MvO.gr hO491 (below_grown hb488) (fun k e => by cases e)
           have ho505 := MvO.ofS hO506
           refine pk0 (v := .bool true) h500 rfl fun a507 h507 => ?_; clear h500
           refine pk0 (v := .bool true) h507 rfl fun a508 h508 => ?_; clear h507
           refine pl_nil ?_
           refine co_then ?_
           refine wp_ret ?_
           refine co_ret1 h508 rfl rfl ?_
           have hB509 := hb_call hB502 hb503
           exact ⟨rfl, hB509⟩
          ·
           rw [hc430] at h429
           have hp510 : ((j : Nat) : Int) < ((l2.length : Nat) : Int) := of_decide_eq_true hc430
           clear hc430
           refine pk0 (v := .int .i64 ((j : Nat) : Int)) h429 rfl fun a511 h511 => ?_; clear h429
           refine pk0 (v := .bool (decide (((j : Nat) : Int) < 30))) h511 rfl fun a512 h512 => ?_; clear h511
           refine pk0 (v := .bool (decide (((j : Nat) : Int) < 30))) h512 rfl fun a513 h513 => ?_; clear h512
           refine pl_nil ?_
           refine co_then ?_
           cases hc514 : (decide (((j : Nat) : Int) < 30))
           ·
            rw [hc514] at h513
            have hp515 : ¬ (((j : Nat) : Int) < 30) := of_decide_eq_false hc514
            clear hc514
            refine co_false h513 rfl ?_
            refine wp_exit ?_
            refine co_thenX ?_
            refine co_thenX ?_
            refine co_blockX ?_
            refine co_then ?_
            refine co_seq ?_
            refine co_reg ?_
            refine pk0 (v := pt N22 0) h513 rfl fun a516 h516 => ?_; clear h513
            refine pk0 (v := .string k) h516 rfl fun a517 h517 => ?_; clear h516
            refine pk0 (v := .int .u64 t) h517 rfl fun a518 h518 => ?_; clear h517
            have ho521 := MvO.ofS hf420
            refine pw h518 rfl (op_call (args := #[pt N22 0, .string k, .int .u64 t]) (R := fun res xw => res = .tuple #[.string ((atS (fA k) t).1), .bool ((atS (fA k) t).2)] ∧ Below w413.heap.size w413 xw) rfl rfl rfl (by kernel_rfl) (by kernel_rfl) (Try.call19 _ _) (mvGet w413 k t hf420) (by rintro e x ⟨rfl, h⟩; rw [hatB]; exact ⟨_, rfl, rfl, h⟩)) ?_; clear h518
            rintro _ w520 a519 ⟨rfl, hb522⟩ h519
            have hz523 := hb522.size
            have ho524 := MvO.ofS hf420
            refine pk0 (v := .tuple #[.string ((atS (fA k) t).1), .bool ((atS (fA k) t).2)]) h519 rfl fun a525 h525 => ?_; clear h519
            refine pk0 (v := .string ((atS (fA k) t).1)) h525 rfl fun a526 h526 => ?_; clear h525
            refine pk0 (v := .bool ((atS (fA k) t).2)) h526 rfl fun a527 h527 => ?_; clear h526
            refine pk0 (v := .string ((atS (fA k) t).1)) h527 rfl fun a528 h528 => ?_; clear h527
            refine pk0 (v := .bool ((atS (fA k) t).2)) h528 rfl fun a529 h529 => ?_; clear h528
            refine pl_nil ?_
            refine co_then ?_
            refine co_seq ?_
            refine co_reg ?_
            refine pk0 (v := pt N22 0) h529 rfl fun a530 h530 => ?_; clear h529
            refine pk0 (v := .string k) h530 rfl fun a531 h531 => ?_; clear h530
            refine pk0 (v := .string to) h531 rfl fun a532 h532 => ?_; clear h531
            refine pk0 (v := .int .u64 t) h532 rfl fun a533 h533 => ?_; clear h532
            have hB536 := hb_call hB422 hb522
            have hO538 := MvO.gr hf420 (below_grown hb522) (fun k e => by cases e)
            have ho537 := MvO.ofS hO538
            refine pw h533 rfl (op_call (args := #[pt N22 0, .string k, .string to, .int .u64 t, .int .i64 1000]) (R := fun res xw => ∃ (ao : Option Addr) (nn cap : Nat), res = .tuple #[.slice ao nn cap, .bool (scanM (hitsF fA t k to) 1000)] ∧ xw.ownsRow w520.heap.size 51 2 (.slice ao nn cap) (scanL (hitsF fA t k to) 1000).length ((scanL (hitsF fA t k to) 1000).flatMap pairE) ∧ Below w520.heap.size w520 xw) rfl rfl rfl (by kernel_rfl) (by kernel_rfl) (Try.call20 _ _) (mvScan w520 k to t 1000 hO538 (by omega) (by omega)) (by rintro e x ⟨u, h0, h⟩; rw [hits_sameF hkA (MvO.kof hO538) hatB] at h0 h; obtain ⟨ao, nn, cap, rfl⟩ := own_sliceT h.1; exact ⟨_, h0, ao, nn, cap, rfl, h⟩)) ?_; clear h533
            rintro _ w535 a534 ⟨ao539, nn540, cp541, rfl, hr542, hb543⟩ h534
            have hz544 := hb543.size
            have ho545 := MvO.ofS hO538
            refine pk0 (v := .tuple #[.slice ao539 nn540 cp541, .bool (scanM (hitsF fA t k to) 1000)]) h534 rfl fun a546 h546 => ?_; clear h534
            refine pk0 (v := .slice ao539 nn540 cp541) h546 rfl fun a547 h547 => ?_; clear h546
            refine pk0 (v := .bool (scanM (hitsF fA t k to) 1000)) h547 rfl fun a548 h548 => ?_; clear h547
            refine pk0 (v := .slice ao539 nn540 cp541) h548 rfl fun a549 h549 => ?_; clear h548
            refine pk0 (v := .bool (scanM (hitsF fA t k to) 1000)) h549 rfl fun a550 h550 => ?_; clear h549
            refine pl_nil ?_
            refine co_then ?_
            refine co_seq ?_
            refine co_reg ?_
            refine pk0 (v := .string ((atS (fA k) t).1)) h550 rfl fun a551 h551 => ?_; clear h550
            refine pk0 (v := .string ((atS (fA k) t).1)) h551 rfl fun a552 h552 => ?_; clear h551
            refine pk0 (v := .bool (((atS (fA k) t).1 : ByteArray).toList == ((atS (fA k) t).1 : ByteArray).toList)) h552 rfl fun a553 h553 => ?_; clear h552
            refine pk0 (v := .bool (((atS (fA k) t).1 : ByteArray).toList == ((atS (fA k) t).1 : ByteArray).toList)) h553 rfl fun a554 h554 => ?_; clear h553
            have hc555 : (((atS (fA k) t).1 : ByteArray).toList == ((atS (fA k) t).1 : ByteArray).toList) = true := by simp
            rw [hc555] at h554; clear hc555
            refine pk0 (v := .bool ((atS (fA k) t).2)) h554 rfl fun a556 h556 => ?_; clear h554
            refine pk0 (v := .bool ((atS (fA k) t).2)) h556 rfl fun a557 h557 => ?_; clear h556
            refine pk0 (v := .bool (((atS (fA k) t).2) == ((atS (fA k) t).2))) h557 rfl fun a558 h558 => ?_; clear h557
            refine pk0 (v := .bool (((atS (fA k) t).2) == ((atS (fA k) t).2))) h558 rfl fun a559 h559 => ?_; clear h558
            refine pk0 (v := .bool (((atS (fA k) t).2) == ((atS (fA k) t).2))) h559 rfl fun a560 h560 => ?_; clear h559
            have hc561 : (((atS (fA k) t).2) == ((atS (fA k) t).2)) = true := by simp
            rw [hc561] at h560; clear hc561
            refine pk0 (v := .slice ao395 nn396 cp397) h560 rfl fun a562 h562 => ?_; clear h560
            refine pk0 (v := .slice ao539 nn540 cp541) h562 rfl fun a563 h563 => ?_; clear h562
            have hB566 := hb_call hB536 hb543
            have hr567 := row_kept_new hf421 (below_grown hb522)
            have hr568 := row_kept_new hr567 (below_grown hb543)
            refine pw h563 rfl (op_call (args := #[.slice ao395 nn396 cp397, .slice ao539 nn540 cp541]) (R := fun res xw => res = .bool true ∧ Below w535.heap.size w535 xw) rfl rfl rfl (by kernel_rfl) (by kernel_rfl) (Try.call21 _ _) (rsamePairs_any (.slice ao395 nn396 cp397) (scanL (hitsF fA t k to) 1000) (.slice ao539 nn540 cp541) (scanL (hitsF fA t k to) 1000) w535 (row_sl hr568 pairE_len) (row_sl hr542 pairE_len)) (by rintro e x ⟨h0, h⟩; rw [sameP_refl] at h0; exact ⟨_, h0, rfl, h⟩)) ?_; clear h563
            rintro _ w565 a564 ⟨rfl, hb569⟩ h564
            have hz570 := hb569.size
            have hO572 := MvO.gr hO538 (below_grown hb543) (fun k e => by cases e)
            have ho571 := MvO.ofS hO572
            refine pk0 (v := .bool true) h564 rfl fun a573 h573 => ?_; clear h564
            refine pk0 (v := .bool true) h573 rfl fun a574 h574 => ?_; clear h573
            refine pk0 (v := .bool (scanM (hitsF fA t k to) 1000)) h574 rfl fun a575 h575 => ?_; clear h574
            refine pk0 (v := .bool (scanM (hitsF fA t k to) 1000)) h575 rfl fun a576 h576 => ?_; clear h575
            refine pk0 (v := .bool ((scanM (hitsF fA t k to) 1000) == (scanM (hitsF fA t k to) 1000))) h576 rfl fun a577 h577 => ?_; clear h576
            refine pk0 (v := .bool ((scanM (hitsF fA t k to) 1000) == (scanM (hitsF fA t k to) 1000))) h577 rfl fun a578 h578 => ?_; clear h577
            refine pk0 (v := .bool ((scanM (hitsF fA t k to) 1000) == (scanM (hitsF fA t k to) 1000))) h578 rfl fun a579 h579 => ?_; clear h578
            have hc580 : ((scanM (hitsF fA t k to) 1000) == (scanM (hitsF fA t k to) 1000)) = true := by simp
            rw [hc580] at h579; clear hc580
            have hB583 := hb_call hB566 hb569
            refine pw h579 rfl (op_call (args := #[]) (R := fun res xw => res = .bool true ∧ Below w565.heap.size w565 xw) rfl rfl rfl (by kernel_rfl) (by kernel_rfl) (Try.call9 _ _) (awake16 w565) (by rintro e x ⟨rfl, h⟩; exact ⟨_, rfl, rfl, h⟩)) ?_; clear h579
            rintro _ w582 a581 ⟨rfl, hb584⟩ h581
            have hz585 := hb584.size
            have hO587 := MvO.gr hO572 (below_grown hb569) (fun k e => by cases e)
            have ho586 := MvO.ofS hO587
            refine pk0 (v := .bool true) h581 rfl fun a588 h588 => ?_; clear h581
            refine pk0 (v := .bool true) h588 rfl fun a589 h589 => ?_; clear h588
            refine pl_nil ?_
            refine co_then ?_
            refine wp_ret ?_
            refine co_ret1 h589 rfl rfl ?_
            have hB590 := hb_call hB583 hb584
            exact ⟨rfl, hB590⟩
           ·
            rw [hc514] at h513
            have hp591 : ((j : Nat) : Int) < 30 := of_decide_eq_true hc514
            clear hc514
            refine co_true h513 rfl ?_
            refine wp_skip ?_
            refine co_then ?_
            refine co_seq ?_
            refine wp_block ?_
            refine co_seq ?_
            refine co_reg ?_
            refine pk0 (v := v2) h513 rfl fun a592 h592 => ?_; clear h513
            refine pk0 (v := .int .i64 ((j : Nat) : Int)) h592 rfl fun a593 h593 => ?_; clear h592
            obtain ⟨y594, hy594⟩ : ∃ z, l2[j]? = some z := ⟨_, List.getElem?_eq_getElem (by first | omega | (simp; done) | (simp; omega))⟩
            have oky594 := hok2 _ (List.mem_of_getElem? hy594)
            have k595 : 0 ≤ y594.ts := oky594.t0
            have k596 : y594.ts < 18446744073709551616 := oky594.t1
            refine pk (v := pt (blkOf v2) (offOf v2 + j * 6)) h593 rfl (rn_index rfl rfl rfl Try.underlying22 Try.sizeOf34 (hs2.below hB422) (by omega) (by first | omega | (simp; done) | (simp; omega))) fun a597 h597 => ?_; clear h593
            refine pk0 (v := pt (blkOf v2) (offOf v2 + j * 6)) h597 rfl fun a598 h598 => ?_; clear h597
            refine pk (v := .int .i64 y594.c) h598 rfl (rn_load1 rfl rfl Try.isAgg3 ((sl_at (hs2.below hB422) hy594) 0 _ rfl)) fun a599 h599 => ?_; clear h598
            refine pk0 (v := .bool (y594.c == 3)) h599 rfl fun a600 h600 => ?_; clear h599
            refine pl_nil ?_
            refine co_then ?_
            cases hc601 : (y594.c == 3)
            ·
             rw [hc601] at h600
             have hp602 : ¬ (y594.c = 3) := by first | simpa using hc601 | simpa [and_assoc] using hc601
             clear hc601
             refine co_false h600 rfl ?_
             refine dr_gen (fun x => Below w.heap.size w x) (by kernel_rfl) (fun w603 hg604 => ?_) (fun w603 hg604 => ?_)
             ·
              have hz605 := hg604.size
              have hB606 := hb_new hB422 hg604
              exact hB606
             have hz607 := hg604.size
             have hB608 := hb_new hB422 hg604
             refine dk0 0 (v := pt N22 0) h600 rfl rfl hB608 fun a609 h609 => ?_; clear h600
             refine dk0 1 (v := v2) h609 rfl rfl hB608 fun a610 h610 => ?_; clear h609
             refine dk0 2 (v := .int .i64 ((j : Nat) : Int)) h610 rfl rfl hB608 fun a611 h611 => ?_; clear h610
             refine dk 3 (v := pt (blkOf v2) (offOf v2 + j * 6)) h611 rfl rfl hB608 (fun x hx => (rn_index rfl rfl rfl Try.underlying22 Try.sizeOf34 (hs2.below hx) (by omega) (by first | omega | (simp; done) | (simp; omega)))) fun a612 h612 => ?_; clear h611
             refine dk0 4 (v := pt (blkOf v2) (offOf v2 + j * 6 + 1)) h612 rfl rfl hB608 fun a613 h613 => ?_; clear h612
             refine dk 5 (v := .int .u64 y594.ts) h613 rfl rfl hB608 (fun x hx => (rn_load1 rfl rfl Try.isAgg29 ((sl_at (hs2.below hx) hy594) 1 _ rfl))) fun a614 h614 => ?_; clear h613
             refine dk0 6 (v := v2) h614 rfl rfl hB608 fun a615 h615 => ?_; clear h614
             refine dk0 7 (v := .int .i64 ((j : Nat) : Int)) h615 rfl rfl hB608 fun a616 h616 => ?_; clear h615
             refine dk 8 (v := pt (blkOf v2) (offOf v2 + j * 6)) h616 rfl rfl hB608 (fun x hx => (rn_index rfl rfl rfl Try.underlying22 Try.sizeOf34 (hs2.below hx) (by omega) (by first | omega | (simp; done) | (simp; omega)))) fun a617 h617 => ?_; clear h616
             refine dk0 9 (v := pt (blkOf v2) (offOf v2 + j * 6 + 2)) h617 rfl rfl hB608 fun a618 h618 => ?_; clear h617
             refine dk 10 (v := y594.v) h618 rfl rfl hB608 (fun x hx => (rn_load1 rfl rfl Try.isAgg32 ((sl_at (hs2.below hx) hy594) 2 _ rfl))) fun a619 h619 => ?_; clear h618
             have hO623 := MvO.gr hf420 hg604 (fun k e => by cases e)
             have ho622 := MvO.ofS hO623
             have hfly594 : y594.l.length ≤ 20 := by first | exact Few.at hfew hy594 (by omega) | exact Few.at hfew2 hy594 (by omega)
             refine d1 11 h619 rfl rfl (op_call (args := #[pt N22 0, .int .u64 y594.ts, y594.v]) (R := fun res xw => ∃ S' : Nat → Prop, res = .int .i64 (mvE lB y594.ts y594.l) ∧ MvO S' xw N22 (mvF fB lB y594.ts y594.l) (mvLa lB y594.ts y594.l) (mvCe lB y594.ts cB y594.l) (i + j + 1) ∧ Grew SB S' w603 xw) rfl rfl rfl (by kernel_rfl) (by kernel_rfl) (Try.call11 _ _) (mvPut w603 y594.ts (y594.v) y594.l hO623 (oky594.ops.below hB608) (sl_off oky594.ops (opE_ne _) hlo424) (by omega) ⟨by omega, by omega⟩ (by omega)) (by rintro e x ⟨S', h0, h⟩; exact ⟨_, h0, S', rfl, h⟩)) ?_ ?_; clear h619
             ·
              rintro _ w621 ⟨S624, rfl, hO625, hx626⟩
              have hr627 := row_kept_new hf421 hg604
              have hlo629 : ∀ q, S624 q → w.heap.size ≤ q := hx626.lo hlo424 (by omega)
              have hB628 := hbL hB608 hlo424 hx626.but
              have hz630 := hB628.size
              have hz631 := hx626.but.size
              exact hB628
             rintro _ w621 a620 ⟨S624, rfl, hO625, hx626⟩ h620
             have hr627 := row_kept_new hf421 hg604
             have hlo629 : ∀ q, S624 q → w.heap.size ≤ q := hx626.lo hlo424 (by omega)
             have hB628 := hbL hB608 hlo424 hx626.but
             have hz630 := hB628.size
             have hz631 := hx626.but.size
             refine dr_done (by kernel_rfl) ?_
             refine co_blockN ?_
             refine co_then ?_
             refine co_reg ?_
             refine pk0 (v := .int .i64 ((j : Nat) : Int)) h620 rfl fun a632 h632 => ?_; clear h620
             refine pk (v := .int .i64 ((j + 1 : Nat) : Int)) h632 rfl (rn_arith' rfl rfl rfl rfl rfl rfl (IntWalk.i64_in _ (by omega)) (by omega)) fun a633 h633 => ?_; clear h632
             refine pk0 (v := .int .i64 ((j + 1 : Nat) : Int)) h633 rfl fun a634 h634 => ?_; clear h633
             refine pl_nil ?_
             refine co_then ?_
             refine ⟨(l2.length - (j + 1)), by omega, ?_⟩
             have hlo9 := hlo629
             have hor9 : ∀ i, (Value.slice ao395 nn396 cp397).ownBlock = some i → ¬ S624 i := (Grew.offR hx626 hr627 horB)
             have hle9 := Int.le_trans hleB (mvLa_bd (ts := y594.ts) (l := y594.l) (MvO.laB hO623) ⟨by omega, by omega⟩).2
             have hat9 := fun x => (mv_keep (ts := y594.ts) (l := y594.l) (MvO.fok hO623) hleB x).trans (hatB x)
             have hr635 := own_butS hr627 hx626.but horB
             exact ⟨j + 1, S624, (mvF fB lB y594.ts y594.l), (mvLa lB y594.ts y594.l), (mvCe lB y594.ts cB y594.l), h634.sub ⟨rfl, rfl, rfl, rfl, rfl, rfl, rfl, rfl, rfl, rfl, rfl, trivial⟩, rfl, by omega, by omega, by exact hlo9, by exact hle9, by exact hat9, by exact hor9, hO625, hr635, hB628⟩
            ·
             rw [hc601] at h600
             have hp636 : y594.c = 3 := by first | simpa using hc601 | simpa [and_assoc] using hc601
             clear hc601
             refine co_true h600 rfl ?_
             refine co_reg ?_
             refine pk0 (v := pt N22 0) h600 rfl fun a637 h637 => ?_; clear h600
             refine pk0 (v := v2) h637 rfl fun a638 h638 => ?_; clear h637
             refine pk0 (v := .int .i64 ((j : Nat) : Int)) h638 rfl fun a639 h639 => ?_; clear h638
             refine pk (v := pt (blkOf v2) (offOf v2 + j * 6)) h639 rfl (rn_index rfl rfl rfl Try.underlying22 Try.sizeOf34 (hs2.below hB422) (by omega) (by first | omega | (simp; done) | (simp; omega))) fun a640 h640 => ?_; clear h639
             refine pk0 (v := pt (blkOf v2) (offOf v2 + j * 6 + 1)) h640 rfl fun a641 h641 => ?_; clear h640
             refine pk (v := .int .u64 y594.ts) h641 rfl (rn_load1 rfl rfl Try.isAgg29 ((sl_at (hs2.below hB422) hy594) 1 _ rfl)) fun a642 h642 => ?_; clear h641
             refine pk0 (v := .int .u64 t) h642 rfl fun a643 h643 => ?_; clear h642
             obtain ⟨kp644, hkp645⟩ : ∃ z : Int, z = (if t < y594.ts then t else y594.ts) := ⟨_, rfl⟩
             have hq646 : kp644 ≤ y594.ts ∧ kp644 ≤ t ∧ (kp644 = y594.ts ∨ kp644 = t) := by rw [hkp645]; split <;> omega
             refine pk (v := .int .u64 kp644) h643 rfl (by rw [hkp645]; kernel_rfl) fun a647 h647 => ?_; clear h643
             have ho650 := MvO.ofS hf420
             refine pw h647 rfl (op_call (args := #[pt N22 0, .int .u64 kp644]) (R := fun res xw => ∃ g' : Int, ∃ S' : Nat → Prop, res = .int .i64 g' ∧ MvO S' xw N22 (pruneF fB kp644) lB (cB - g') (i + j + 1) ∧ Grew SB S' w413 xw) rfl rfl rfl (by kernel_rfl) (by kernel_rfl) (Try.call13 _ _) (mvPrune w413 kp644 hf420 ⟨by omega, by omega⟩ (by omega)) (by rintro e x ⟨g', S', h0, h⟩; exact ⟨_, h0, g', S', rfl, h⟩)) ?_; clear h647
             rintro _ w649 a648 ⟨g'651, S652, rfl, hO653, hx654⟩ h648
             have hlo656 : ∀ q, S652 q → w.heap.size ≤ q := hx654.lo hlo424 (by omega)
             have hB655 := hbL hB422 hlo424 hx654.but
             have hz657 := hB655.size
             have hz658 := hx654.but.size
             refine pl_nil ?_
             refine co_blockN ?_
             refine co_then ?_
             refine co_reg ?_
             refine pk0 (v := .int .i64 ((j : Nat) : Int)) h648 rfl fun a659 h659 => ?_; clear h648
             refine pk (v := .int .i64 ((j + 1 : Nat) : Int)) h659 rfl (rn_arith' rfl rfl rfl rfl rfl rfl (IntWalk.i64_in _ (by omega)) (by omega)) fun a660 h660 => ?_; clear h659
             refine pk0 (v := .int .i64 ((j + 1 : Nat) : Int)) h660 rfl fun a661 h661 => ?_; clear h660
             refine pl_nil ?_
             refine co_then ?_
             refine ⟨(l2.length - (j + 1)), by omega, ?_⟩
             have hlo9 := hlo656
             have hor9 : ∀ i, (Value.slice ao395 nn396 cp397).ownBlock = some i → ¬ S652 i := (Grew.offR hx654 hf421 horB)
             have hle9 := hleB
             have hat9 := fun x => (prune_at (MvO.fok hf420) (by omega : kp644 ≤ t) x).trans (hatB x)
             have hr662 := own_butS hf421 hx654.but horB
             exact ⟨j + 1, S652, (pruneF fB kp644), lB, (cB - g'651), h661.sub ⟨rfl, rfl, rfl, rfl, rfl, rfl, rfl, rfl, rfl, rfl, rfl, trivial⟩, rfl, by omega, by omega, by exact hlo9, by exact hle9, by exact hat9, by exact hor9, hO653, hr662, hB655⟩
       ·
        rw [hc370] at h369
        have hp663 : t > lA := of_decide_eq_true hc370
        clear hc370
        refine co_true h369 rfl ?_
        refine co_seq ?_
        refine co_reg ?_
        refine pw h369 rfl (op_call (args := #[]) (R := fun res xw => res = .bool true ∧ Below w35.heap.size w35 xw) rfl rfl rfl (by kernel_rfl) (by kernel_rfl) (Try.call9 _ _) (awake16 w35) (by rintro e x ⟨rfl, h⟩; exact ⟨_, rfl, rfl, h⟩)) ?_; clear h369
        rintro _ w665 a664 ⟨rfl, hb666⟩ h664
        have hz667 := hb666.size
        have ho668 := MvO.ofS hf39
        refine pk0 (v := .bool true) h664 rfl fun a669 h669 => ?_; clear h664
        refine pl_nil ?_
        refine co_then ?_
        refine wp_ret ?_
        refine co_thenR ?_
        refine co_ret1 h669 rfl rfl ?_
        have hB670 := hb_call hB40 hb666
        exact ⟨rfl, hB670⟩
      ·
       rw [hc363] at h362
       have hp671 : ((i : Nat) : Int) < 30 := of_decide_eq_true hc363
       clear hc363
       refine co_true h362 rfl ?_
       refine wp_skip ?_
       refine co_then ?_
       refine co_seq ?_
       refine wp_block ?_
       refine dr_gen (fun x => Below w.heap.size w x) (by kernel_rfl) (fun w672 hg673 => ?_) (fun w672 hg673 => ?_)
       ·
        have hz674 := hg673.size
        have hB675 := hb_new hB40 hg673
        exact hB675
       have hz676 := hg673.size
       have hB677 := hb_new hB40 hg673
       refine dk0 0 (v := pt N22 0) h362 rfl rfl hB677 fun a678 h678 => ?_; clear h362
       refine dk0 1 (v := v) h678 rfl rfl hB677 fun a679 h679 => ?_; clear h678
       refine dk0 2 (v := .int .i64 ((i : Nat) : Int)) h679 rfl rfl hB677 fun a680 h680 => ?_; clear h679
       obtain ⟨y681, hy681⟩ : ∃ z, l[i]? = some z := ⟨_, List.getElem?_eq_getElem (by first | omega | (simp; done) | (simp; omega))⟩
       have oky681 := hok _ (List.mem_of_getElem? hy681)
       have k682 : 0 ≤ y681.ts := oky681.t0
       have k683 : y681.ts < 18446744073709551616 := oky681.t1
       refine dk 3 (v := pt (blkOf v) (offOf v + i * 6)) h680 rfl rfl hB677 (fun x hx => (rn_index rfl rfl rfl Try.underlying22 Try.sizeOf34 (hs.below hx) (by omega) (by first | omega | (simp; done) | (simp; omega)))) fun a684 h684 => ?_; clear h680
       refine dk0 4 (v := pt (blkOf v) (offOf v + i * 6 + 1)) h684 rfl rfl hB677 fun a685 h685 => ?_; clear h684
       refine dk 5 (v := .int .u64 y681.ts) h685 rfl rfl hB677 (fun x hx => (rn_load1 rfl rfl Try.isAgg29 ((sl_at (hs.below hx) hy681) 1 _ rfl))) fun a686 h686 => ?_; clear h685
       refine dk0 6 (v := v) h686 rfl rfl hB677 fun a687 h687 => ?_; clear h686
       refine dk0 7 (v := .int .i64 ((i : Nat) : Int)) h687 rfl rfl hB677 fun a688 h688 => ?_; clear h687
       refine dk 8 (v := pt (blkOf v) (offOf v + i * 6)) h688 rfl rfl hB677 (fun x hx => (rn_index rfl rfl rfl Try.underlying22 Try.sizeOf34 (hs.below hx) (by omega) (by first | omega | (simp; done) | (simp; omega)))) fun a689 h689 => ?_; clear h688
       refine dk0 9 (v := pt (blkOf v) (offOf v + i * 6 + 2)) h689 rfl rfl hB677 fun a690 h690 => ?_; clear h689
       refine dk 10 (v := y681.v) h690 rfl rfl hB677 (fun x hx => (rn_load1 rfl rfl Try.isAgg32 ((sl_at (hs.below hx) hy681) 2 _ rfl))) fun a691 h691 => ?_; clear h690
       have hO695 := MvO.gr hf39 hg673 (fun k e => by cases e)
       have ho694 := MvO.ofS hO695
       have hfly681 : y681.l.length ≤ 20 := by first | exact Few.at hfew hy681 (by omega) | exact Few.at hfew2 hy681 (by omega)
       refine d1 11 h691 rfl rfl (op_call (args := #[pt N22 0, .int .u64 y681.ts, y681.v]) (R := fun res xw => ∃ S' : Nat → Prop, res = .int .i64 (mvE lA y681.ts y681.l) ∧ MvO S' xw N22 (mvF fA lA y681.ts y681.l) (mvLa lA y681.ts y681.l) (mvCe lA y681.ts cA y681.l) (i + 1) ∧ Grew SA S' w672 xw) rfl rfl rfl (by kernel_rfl) (by kernel_rfl) (Try.call11 _ _) (mvPut w672 y681.ts (y681.v) y681.l hO695 (oky681.ops.below hB677) (sl_off oky681.ops (opE_ne _) hlo42) (by omega) ⟨by omega, by omega⟩ (by omega)) (by rintro e x ⟨S', h0, h⟩; exact ⟨_, h0, S', rfl, h⟩)) ?_ ?_; clear h691
       ·
        rintro _ w693 ⟨S696, rfl, hO697, hx698⟩
        have hlo700 : ∀ q, S696 q → w.heap.size ≤ q := hx698.lo hlo42 (by omega)
        have hB699 := hbL hB677 hlo42 hx698.but
        have hz701 := hB699.size
        have hz702 := hx698.but.size
        exact hB699
       rintro _ w693 a692 ⟨S696, rfl, hO697, hx698⟩ h692
       have hlo700 : ∀ q, S696 q → w.heap.size ≤ q := hx698.lo hlo42 (by omega)
       have hB699 := hbL hB677 hlo42 hx698.but
       have hz701 := hB699.size
       have hz702 := hx698.but.size
       refine dr_done (by kernel_rfl) ?_
       refine co_blockN ?_
       refine co_then ?_
       refine co_reg ?_
       refine pk0 (v := .int .i64 ((i : Nat) : Int)) h692 rfl fun a703 h703 => ?_; clear h692
       refine pk (v := .int .i64 ((i + 1 : Nat) : Int)) h703 rfl (rn_arith' rfl rfl rfl rfl rfl rfl (IntWalk.i64_in _ (by omega)) (by omega)) fun a704 h704 => ?_; clear h703
       refine pk0 (v := .int .i64 ((i + 1 : Nat) : Int)) h704 rfl fun a705 h705 => ?_; clear h704
       refine pl_nil ?_
       refine co_then ?_
       refine ⟨(l.length - (i + 1)), by omega, ?_⟩
       have hlo9 := hlo700
       exact ⟨i + 1, S696, (mvF fA lA y681.ts y681.l), (mvLa lA y681.ts y681.l), (mvCe lA y681.ts cA y681.l), h705.sub ⟨rfl, rfl, rfl, rfl, rfl, rfl, rfl, trivial⟩, rfl, by omega, by omega, by exact hlo9, hO697, hB699⟩
 · skip
   refine co_enter (n := 147) Try.func4 rfl rfl rfl [(0, v), (1, v2), (2, .int .u64 t), (3, .string k), (4, .string to)] rfl (fun a h0 => ?_)
   refine co_seq ?_
   refine co_reg ?_
   refine pk0 (v := .bool false) h0 rfl fun a706 h706 => ?_; clear h0
   refine pl_nil ?_
   refine co_then ?_
   refine co_seq ?_
   refine co_seq ?_
   refine co_reg ?_
   refine pk0 (v := v) h706 rfl fun a707 h707 => ?_; clear h706
   refine pw h707 rfl (op_call (args := #[v]) (R := fun res xw => res = .bool (decide (Few l 40)) ∧ Below w.heap.size w xw) rfl rfl rfl (by kernel_rfl) (by kernel_rfl) (Try.call8 _ _) (few16_any v l w (hs.below hB0) (fun z hz => (hok z hz).below hB0)) (by rintro e x ⟨rfl, h⟩; exact ⟨_, rfl, rfl, h⟩)) ?_; clear h707
   rintro _ w709 a708 ⟨rfl, hb710⟩ h708
   have hz711 := hb710.size
   have hc712 : (decide (Few l 40)) = false := by simp [hfew]
   rw [hc712] at h708; clear hc712
   refine pk0 (v := .bool true) h708 rfl fun a713 h713 => ?_; clear h708
   refine pk0 (v := .bool true) h713 rfl fun a714 h714 => ?_; clear h713
   refine psk h714 rfl fun a715 h715 => ?_; clear h714
   refine psk h715 rfl fun a716 h716 => ?_; clear h715
   refine psk h716 rfl fun a717 h717 => ?_; clear h716
   refine pk0 (v := .bool true) h717 rfl fun a718 h718 => ?_; clear h717
   refine pl_nil ?_
   refine co_then ?_
   refine co_true h718 rfl ?_
   refine co_seq ?_
   refine co_reg ?_
   have hB721 := hb_call hB0 hb710
   refine pw h718 rfl (op_call (args := #[]) (R := fun res xw => res = .bool true ∧ Below w709.heap.size w709 xw) rfl rfl rfl (by kernel_rfl) (by kernel_rfl) (Try.call9 _ _) (awake16 w709) (by rintro e x ⟨rfl, h⟩; exact ⟨_, rfl, rfl, h⟩)) ?_; clear h718
   rintro _ w720 a719 ⟨rfl, hb722⟩ h719
   have hz723 := hb722.size
   refine pk0 (v := .bool true) h719 rfl fun a724 h724 => ?_; clear h719
   refine pl_nil ?_
   refine co_then ?_
   refine wp_ret ?_
   refine co_thenR ?_
   refine co_ret1 h724 rfl rfl ?_
   have hB725 := hb_call hB721 hb722
   exact ⟨rfl, hB725⟩
 · skip
   refine co_enter (n := 147) Try.func4 rfl rfl rfl [(0, v), (1, v2), (2, .int .u64 t), (3, .string k), (4, .string to)] rfl (fun a h0 => ?_)
   refine co_seq ?_
   refine co_reg ?_
   refine pk0 (v := .bool false) h0 rfl fun a726 h726 => ?_; clear h0
   refine pl_nil ?_
   refine co_then ?_
   refine co_seq ?_
   refine co_seq ?_
   refine co_reg ?_
   refine pk0 (v := v) h726 rfl fun a727 h727 => ?_; clear h726
   refine pw h727 rfl (op_call (args := #[v]) (R := fun res xw => res = .bool (decide (Few l 40)) ∧ Below w.heap.size w xw) rfl rfl rfl (by kernel_rfl) (by kernel_rfl) (Try.call8 _ _) (few16_any v l w (hs.below hB0) (fun z hz => (hok z hz).below hB0)) (by rintro e x ⟨rfl, h⟩; exact ⟨_, rfl, rfl, h⟩)) ?_; clear h727
   rintro _ w729 a728 ⟨rfl, hb730⟩ h728
   have hz731 := hb730.size
   have hc732 : (decide (Few l 40)) = true := by simp [hfew, hfew2]
   rw [hc732] at h728; clear hc732
   refine pk0 (v := .bool false) h728 rfl fun a733 h733 => ?_; clear h728
   refine pk0 (v := .bool false) h733 rfl fun a734 h734 => ?_; clear h733
   refine pk0 (v := v2) h734 rfl fun a735 h735 => ?_; clear h734
   have hB738 := hb_call hB0 hb730
   refine pw h735 rfl (op_call (args := #[v2]) (R := fun res xw => res = .bool (decide (Few l2 40)) ∧ Below w729.heap.size w729 xw) rfl rfl rfl (by kernel_rfl) (by kernel_rfl) (Try.call8 _ _) (few16_any v2 l2 w729 (hs2.below hB738) (fun z hz => (hok2 z hz).below hB738)) (by rintro e x ⟨rfl, h⟩; exact ⟨_, rfl, rfl, h⟩)) ?_; clear h735
   rintro _ w737 a736 ⟨rfl, hb739⟩ h736
   have hz740 := hb739.size
   have hc741 : (decide (Few l2 40)) = false := by simp [hfew, hfew2]
   rw [hc741] at h736; clear hc741
   refine pk0 (v := .bool true) h736 rfl fun a742 h742 => ?_; clear h736
   refine pk0 (v := .bool true) h742 rfl fun a743 h743 => ?_; clear h742
   refine pl_nil ?_
   refine co_then ?_
   refine co_true h743 rfl ?_
   refine co_seq ?_
   refine co_reg ?_
   have hB746 := hb_call hB738 hb739
   refine pw h743 rfl (op_call (args := #[]) (R := fun res xw => res = .bool true ∧ Below w737.heap.size w737 xw) rfl rfl rfl (by kernel_rfl) (by kernel_rfl) (Try.call9 _ _) (awake16 w737) (by rintro e x ⟨rfl, h⟩; exact ⟨_, rfl, rfl, h⟩)) ?_; clear h743
   rintro _ w745 a744 ⟨rfl, hb747⟩ h744
   have hz748 := hb747.size
   refine pk0 (v := .bool true) h744 rfl fun a749 h749 => ?_; clear h744
   refine pl_nil ?_
   refine co_then ?_
   refine wp_ret ?_
   refine co_thenR ?_
   refine co_ret1 h749 rfl rfl ?_
   have hB750 := hb_call hB746 hb747
   exact ⟨rfl, hB750⟩

theorem mvccStays_l (v : Value) (l : List MActT) (v2 : Value) (l2 : List MActT) (t : Int) (k to : ByteArray) (w : World) (hs : SliceOf mactE 6 w v l) (hok : ∀ z ∈ l, MActOk w z) (hs2 : SliceOf mactE 6 w v2 l2) (hok2 : ∀ z ∈ l2, MActOk w z) (ht : (Lit.int .u64 t).wf = true) (_ : k.size ≤ 140737488351232) (_ : to.size ≤ 140737488351232) :
    Calls Try.prog 4 #[v, v2, .int .u64 t, .string k, .string to] w fun e w' => e = .returned (.bool true) ∧ Below w.heap.size w w' := mvccStays_law v l v2 l2 t k to w hs hok hs2 hok2 (wf_u64 ht)

end Go.Proofs.Ytfjhlckklgeokaa
