/- The document's log: Thin. Conditions: at most 100 entries, 20 operations each. -/
import Derived.Test.YthmnndbpadegnaaRlgW
namespace Go.Proofs.Ythmnndbpadegnaa
open Go.RowKit Go.PlainAid
set_option linter.unusedVariables false

set_option maxRecDepth 100000 in
set_option maxHeartbeats 1600000 in
theorem rThin17_any (w0 : World) (S : Nat → Prop) (b : Nat) (u : Value) (X : List EntT) (h : Int) (n : Int) (w : World) (hbw : But S w0 w) (hO : RgP S w0.heap.size w b u X) (hh : 0 ≤ h ∧ h < 18446744073709551616) (hni : -9223372036854775808 ≤ n ∧ n ≤ 9223372036854775807) :
    Calls Try.prog 77 #[pt b 0, .int .u64 h, .int .i64 n] w fun e w' => ∃ (u' : Value) (X' : List EntT), e = .returned (.int .i64 (thG X h n)) ∧ RgP S w0.heap.size w' b u' X' ∧ X'.map e0 = (thL X h n).map e0 ∧ But (S) w0 w' := by
 have hB0 := hbw
 have hz0 := hbw.size
 have hz0 := hbw.size
 have hl1 := hO.blk.lt; have hln2 := hO.len
 have hML := thM_le X n
 refine co_enter (n := 94) Try.func77 rfl rfl rfl [(0, pt b 0), (1, .int .u64 h), (2, .int .i64 n)] rfl (fun a h0 => ?_)
 refine co_seq ?_
 refine co_reg ?_
 refine pk0 (v := .int .i64 0) h0 rfl fun a3 h3 => ?_; clear h0
 refine pl_nil ?_
 refine co_then ?_
 refine co_seq ?_
 refine co_reg ?_
 refine pk0 (v := .int .i64 0) h3 rfl fun a4 h4 => ?_; clear h3
 refine pl_nil ?_
 refine co_then ?_
 refine co_seq ?_
 refine co_reg ?_
 refine pk0 (v := pt b 0) h4 rfl fun a5 h5 => ?_; clear h4
 refine pk0 (v := pt b 0) h5 rfl fun a6 h6 => ?_; clear h5
 refine pk0 (v := pt b 0) h6 rfl fun a7 h7 => ?_; clear h6
 refine pk (v := u) h7 rfl (rn_load1 rfl rfl Try.isAgg39 (hO.blk.cell rfl)) fun a8 h8 => ?_; clear h7
 refine pw h8 rfl (op_call (args := #[u]) (R := fun res xw => ∃ L2 : List EntT, ∃ u : Value, res = u ∧ xw.ownsRow w.heap.size 47 4 u L2.length (L2.flatMap entE) ∧ EntsK (fun _ => False) w.heap.size xw L2 ∧ L2.map e0 = X.map e0 ∧ Below w.heap.size w xw) rfl rfl rfl (by kernel_rfl) (by kernel_rfl) (Try.call52 _ _) (rcopy17_any u X w (row_sl hO.row entE_len) (entsK_got hO.ents) (fun z hz => (hO.ents z hz).len) hO.len) (by rintro e x ⟨L2, u, rfl, hq13, hq14, hq15, hb16⟩; exact ⟨_, rfl, ⟨L2, u, rfl, hq13, hq14, hq15, hb16⟩⟩)) ?_; clear h8
 rintro u12 w10 a9 ⟨L211, _, rfl, hq13, hq14, hq15, hb16⟩ h9
 have hu17 := row_under hO.row (rfl : w.heap.size = _)
 have hz18 := hb16.size
 have hl19 := sl_len (row_sl hq13 entE_len)
 have hE20 : EntsK S w0.heap.size w10 L211 := EntsK.low hq14 (by omega)
 have hl21 := e0_len hq15
 refine pk0 (v := u12) h9 rfl fun a22 h22 => ?_; clear h9
 refine pl_nil ?_
 refine co_then ?_
 refine co_seq ?_
 refine co_seq ?_
 refine co_reg ?_
 refine pk0 (v := .int .i64 0) h22 rfl fun a23 h23 => ?_; clear h22
 refine pl_nil ?_
 refine co_then ?_
 refine wp_block ?_
 have h24 : Slots 94 [(0, pt b 0), (1, .int .u64 h), (2, .int .i64 n), (7, .int .i64 0), (8, u12), (9, .int .i64 0)] _ := h23.sub ⟨rfl, rfl, rfl, rfl, rfl, rfl, trivial⟩; clear h23
 refine co_loop (fun mm a x => ∃ (i : Nat) (Mk : List EntT), Slots 94 [(0, pt b 0), (1, .int .u64 h), (2, .int .i64 n), (7, .int .i64 (rgD X h (thM X n) i)), (8, u12), (9, .int .i64 ((i : Nat) : Int))] a ∧ mm = X.length - i ∧ (i ≤ thM X n) ∧ (Mk.map e0 = (rtS X h (thM X n) i).map e0) ∧ x.ownsRow w.heap.size 47 4 u12 Mk.length (Mk.flatMap entE) ∧ x.ownsRow 0 47 4 u X.length (X.flatMap entE) ∧ EntsK S w0.heap.size x X ∧ EntsK S w0.heap.size x Mk ∧ But (S) w0 x ∧ Blk x b 41 #[u]) (X.length - 0) ?_ ?_
 have hr25 := row_kept_new hO.row (below_grown hb16)
 have hE26 := hO.ents.new (below_grown hb16)
 have hB27 := fbU_call hB0 hb16
 have hk28 := hO.blk.below hb16
 · exact ⟨0, L211, h24.sub ⟨rfl, rfl, rfl, (slot_eq rfl (congrArg (Value.int .i64) (by first | exact rgD_0 | (rw [hgj]; exact hg')))), rfl, (slot_eq rfl (congrArg (Value.int .i64) (by first | rfl | omega))), trivial⟩, rfl, by omega, by first | exact hi' | (rw [rtS_0]; assumption), hq13, hr25, hE26, hE20, hB27, hk28⟩
 · rintro k29 a30 w31 ⟨i, Mk, h30, rfl, hi32, hi33, hf34, hf35, hf36, hf37, hB38, hk39⟩
   have hz40 := hB38.size
   have hl41 := hk39.lt
   have hMl : Mk.length = X.length := rt_len (by assumption : Mk.map e0 = (rtS X h (thM X n) i).map e0) (by omega) (by omega)
   have hgb := rgD_nn (h := h) (M := thM X n) (i := i) (fun e he => (hO.ents e he).len) (by omega)
   obtain ⟨gj, hgj⟩ : ∃ z, z = rgD X h (thM X n) i := ⟨_, rfl⟩; rw [← hgj] at hgb
   rw [← hgj] at h30
   refine co_seq ?_
   refine co_seq ?_
   refine co_reg ?_
   refine pk0 (v := .int .i64 ((i : Nat) : Int)) h30 rfl fun a42 h42 => ?_; clear h30
   refine pk0 (v := u12) h42 rfl fun a43 h43 => ?_; clear h42
   refine pk (v := .int .i64 ((Mk.length : Nat) : Int)) h43 rfl (rn_lenOwn rfl rfl Try.underlying39 hf34) fun a44 h44 => ?_; clear h43
   refine pk0 (v := .bool (decide (((i : Nat) : Int) < ((Mk.length : Nat) : Int)))) h44 rfl fun a45 h45 => ?_; clear h44
   refine pk0 (v := .bool (decide (((i : Nat) : Int) < ((Mk.length : Nat) : Int)))) h45 rfl fun a46 h46 => ?_; clear h45
   cases hc47 : (decide (((i : Nat) : Int) < ((Mk.length : Nat) : Int)))
   ·
    rw [hc47] at h46
    have hp48 : ¬ (((i : Nat) : Int) < ((Mk.length : Nat) : Int)) := of_decide_eq_false hc47
    clear hc47
    refine psk h46 rfl fun a49 h49 => ?_; clear h46
    refine psk h49 rfl fun a50 h50 => ?_; clear h49
    refine psk h50 rfl fun a51 h51 => ?_; clear h50
    refine pk0 (v := .bool false) h51 rfl fun a52 h52 => ?_; clear h51
    refine pl_nil ?_
    refine co_then ?_
    refine co_false h52 rfl ?_
    refine wp_exit ?_
    refine co_thenX ?_
    refine co_thenX ?_
    refine co_blockX ?_
    refine co_then ?_
    refine co_seq ?_
    refine co_reg ?_
    refine pk0 (v := pt b 0) h52 rfl fun a53 h53 => ?_; clear h52
    refine pk0 (v := u12) h53 rfl fun a54 h54 => ?_; clear h53
    refine pk0 (v := pt b 0) h54 rfl fun a55 h55 => ?_; clear h54
    refine pk0 (v := pt b 0) h55 rfl fun a56 h56 => ?_; clear h55
    refine pwD h56 rfl (op_store1 rfl rfl rfl (row_one hf34) Try.sizeOf39 hk39 rfl) ?_; clear h56
    rintro _ w58 a57 ⟨hk59, hz60, hg61⟩ h57
    have hk59' : Blk w58 b 41 #[u12] := hk59; clear hk59
    have hz62 := hg61.size
    refine pl_nil ?_
    refine co_then ?_
    refine co_seq ?_
    refine co_reg ?_
    refine pk0 (v := .int .i64 gj) h57 rfl fun a63 h63 => ?_; clear h57
    refine pk0 (v := .int .i64 gj) h63 rfl fun a64 h64 => ?_; clear h63
    refine pl_nil ?_
    refine co_then ?_
    refine wp_ret ?_
    refine co_ret1 h64 rfl rfl ?_
    have hr65 := row_kept_at hf34 hg61 (own_neT hf34 hk39 (by decide))
    have hE66 := hf37.blk hk39 (by decide) hg61
    have hB67 := fbU_at hB38 hg61 (fun hlt => by rcases hO.sb with hq | hq; exact hq; omega)
    have hiM : i = thM X n := Nat.le_antisymm (by omega) (thM_ge (by omega))
    have hLe : Mk.map e0 = (thL X h n).map e0 := by have hq := (by assumption : Mk.map e0 = (rtS X h (thM X n) i).map e0); rw [hiM, rt_end (by omega)] at hq; exact hq
    exact ⟨_, _, ret_int (by unfold thG; rw [hgj, hiM]; exact rgD_end (Nat.le_refl _)), ⟨hk59', (row_lows hr65 (Nat.zero_le _)), hE66, hO.sb, (InS.low hf34 (by omega)), (by have := hO.len; omega)⟩, hLe, hB67⟩
   ·
    rw [hc47] at h46
    have hp68 : ((i : Nat) : Int) < ((Mk.length : Nat) : Int) := of_decide_eq_true hc47
    clear hc47
    refine pk0 (v := .int .i64 ((i : Nat) : Int)) h46 rfl fun a69 h69 => ?_; clear h46
    refine pk0 (v := .int .i64 n) h69 rfl fun a70 h70 => ?_; clear h69
    refine pk0 (v := .bool (decide (((i : Nat) : Int) < n))) h70 rfl fun a71 h71 => ?_; clear h70
    refine pk0 (v := .bool (decide (((i : Nat) : Int) < n))) h71 rfl fun a72 h72 => ?_; clear h71
    refine pl_nil ?_
    refine co_then ?_
    cases hc73 : (decide (((i : Nat) : Int) < n))
    ·
     rw [hc73] at h72
     have hp74 : ¬ (((i : Nat) : Int) < n) := of_decide_eq_false hc73
     clear hc73
     refine co_false h72 rfl ?_
     refine wp_exit ?_
     refine co_thenX ?_
     refine co_thenX ?_
     refine co_blockX ?_
     refine co_then ?_
     refine co_seq ?_
     refine co_reg ?_
     refine pk0 (v := pt b 0) h72 rfl fun a75 h75 => ?_; clear h72
     refine pk0 (v := u12) h75 rfl fun a76 h76 => ?_; clear h75
     refine pk0 (v := pt b 0) h76 rfl fun a77 h77 => ?_; clear h76
     refine pk0 (v := pt b 0) h77 rfl fun a78 h78 => ?_; clear h77
     refine pwD h78 rfl (op_store1 rfl rfl rfl (row_one hf34) Try.sizeOf39 hk39 rfl) ?_; clear h78
     rintro _ w80 a79 ⟨hk81, hz82, hg83⟩ h79
     have hk81' : Blk w80 b 41 #[u12] := hk81; clear hk81
     have hz84 := hg83.size
     refine pl_nil ?_
     refine co_then ?_
     refine co_seq ?_
     refine co_reg ?_
     refine pk0 (v := .int .i64 gj) h79 rfl fun a85 h85 => ?_; clear h79
     refine pk0 (v := .int .i64 gj) h85 rfl fun a86 h86 => ?_; clear h85
     refine pl_nil ?_
     refine co_then ?_
     refine wp_ret ?_
     refine co_ret1 h86 rfl rfl ?_
     have hr87 := row_kept_at hf34 hg83 (own_neT hf34 hk39 (by decide))
     have hE88 := hf37.blk hk39 (by decide) hg83
     have hB89 := fbU_at hB38 hg83 (fun hlt => by rcases hO.sb with hq | hq; exact hq; omega)
     have hiM : i = thM X n := Nat.le_antisymm (by omega) (thM_ge (by omega))
     have hLe : Mk.map e0 = (thL X h n).map e0 := by have hq := (by assumption : Mk.map e0 = (rtS X h (thM X n) i).map e0); rw [hiM, rt_end (by omega)] at hq; exact hq
     exact ⟨_, _, ret_int (by unfold thG; rw [hgj, hiM]; exact rgD_end (Nat.le_refl _)), ⟨hk81', (row_lows hr87 (Nat.zero_le _)), hE88, hO.sb, (InS.low hf34 (by omega)), (by have := hO.len; omega)⟩, hLe, hB89⟩
    ·
     rw [hc73] at h72
     have hp90 : ((i : Nat) : Int) < n := of_decide_eq_true hc73
     clear hc73
     refine co_true h72 rfl ?_
     refine wp_skip ?_
     refine co_then ?_
     refine co_seq ?_
     refine wp_block ?_
     refine co_seq ?_
     refine co_seq ?_
     refine co_reg ?_
     refine pk0 (v := u12) h72 rfl fun a91 h91 => ?_; clear h72
     refine pk0 (v := .int .i64 ((i : Nat) : Int)) h91 rfl fun a92 h92 => ?_; clear h91
     obtain ⟨y93, hy93⟩ : ∃ z, Mk[i]? = some z := ⟨_, List.getElem?_eq_getElem (by first | omega | (simp; done) | (simp; omega))⟩
     have oky93 := (fun (z : EntT) (_ : z ∈ Mk) => trivial) _ (List.mem_of_getElem? hy93)
     have hy94 := hf37.at hy93
     have hq95 := hy94.ts0; have hq96 := hy94.ts1; have hq97 := hy94.len; have hq98 := wf_i64 hy94.cl; have hq99 := wf_i64 hy94.rq
     refine pk (v := pt (blkOf u12) (offOf u12 + i * 4)) h92 rfl (rn_index rfl rfl rfl Try.underlying39 Try.sizeOf47 (row_sl hf34 entE_len) (by omega) (by first | omega | (simp; done) | (simp; omega))) fun a100 h100 => ?_; clear h92
     refine pk0 (v := pt (blkOf u12) (offOf u12 + i * 4 + 3)) h100 rfl fun a101 h101 => ?_; clear h100
     refine pk (v := .int .u64 y93.ts) h101 rfl (rn_load1 rfl rfl Try.isAgg45 ((sl_at (row_sl hf34 entE_len) hy93) 3 _ rfl)) fun a102 h102 => ?_; clear h101
     refine pk0 (v := .bool (y93.ts == 0)) h102 rfl fun a103 h103 => ?_; clear h102
     refine pk0 (v := .bool (y93.ts == 0)) h103 rfl fun a104 h104 => ?_; clear h103
     cases hc105 : (y93.ts == 0)
     ·
      rw [hc105] at h104
      have hp106 : ¬ (y93.ts = 0) := by first | simpa using hc105 | simpa [and_assoc] using hc105
      clear hc105
      refine pk0 (v := u12) h104 rfl fun a107 h107 => ?_; clear h104
      refine pk0 (v := .int .i64 ((i : Nat) : Int)) h107 rfl fun a108 h108 => ?_; clear h107
      refine pk (v := pt (blkOf u12) (offOf u12 + i * 4)) h108 rfl (rn_index rfl rfl rfl Try.underlying39 Try.sizeOf47 (row_sl hf34 entE_len) (by omega) (by first | omega | (simp; done) | (simp; omega))) fun a109 h109 => ?_; clear h108
      refine pk0 (v := pt (blkOf u12) (offOf u12 + i * 4 + 3)) h109 rfl fun a110 h110 => ?_; clear h109
      refine pk (v := .int .u64 y93.ts) h110 rfl (rn_load1 rfl rfl Try.isAgg45 ((sl_at (row_sl hf34 entE_len) hy93) 3 _ rfl)) fun a111 h111 => ?_; clear h110
      refine pk0 (v := .int .u64 h) h111 rfl fun a112 h112 => ?_; clear h111
      refine pk0 (v := .bool (decide (y93.ts > h))) h112 rfl fun a113 h113 => ?_; clear h112
      refine pk0 (v := .bool (decide (y93.ts > h))) h113 rfl fun a114 h114 => ?_; clear h113
      refine pl_nil ?_
      refine co_then ?_
      cases hc115 : (decide (y93.ts > h))
      ·
       rw [hc115] at h114
       have hp116 : ¬ (y93.ts > h) := of_decide_eq_false hc115
       clear hc115
       refine co_false h114 rfl ?_
       refine wp_skip ?_
       refine co_then ?_
       refine co_seq ?_
       refine co_reg ?_
       refine pk0 (v := .slice none 0 0) h114 rfl fun a117 h117 => ?_; clear h114
       refine pl_nil ?_
       refine co_then ?_
       refine co_seq ?_
       refine co_seq ?_
       refine co_reg ?_
       refine pk0 (v := .int .i64 0) h117 rfl fun a118 h118 => ?_; clear h117
       refine pl_nil ?_
       refine co_then ?_
       refine wp_block ?_
       obtain ⟨bs119, hb_bs119⟩ : ∃ b, b = w31.heap.size := ⟨_, rfl⟩
       have hu120 := row_under hf34 hb_bs119
       have hu121 := row_under hf35 hb_bs119
       have hu122 := row_under hy94.row hb_bs119
       have hu123 := EntsK.under hf37 hb_bs119
       have hu124 := EntsK.under hf36 hb_bs119
       have hiM := thM_lt (X := X) (n := n) (i := i) (by omega) (by omega)
       have hw0b : w0.heap.size ≤ bs119 := by omega
       have h125 : Slots 94 [(0, pt b 0), (1, .int .u64 h), (2, .int .i64 n), (7, .int .i64 gj), (8, u12), (9, .int .i64 ((i : Nat) : Int)), (10, .slice none 0 0), (11, .int .i64 0)] _ := h118.sub ⟨rfl, rfl, rfl, rfl, rfl, rfl, rfl, rfl, trivial⟩; clear h118
       refine co_loop (fun mm a x => ∃ (q : Nat) (u2 : Value), Slots 94 [(0, pt b 0), (1, .int .u64 h), (2, .int .i64 n), (7, .int .i64 (gj + ((q : Int) - ((kpL (fT h ((X.take (thM X n)).drop (i + 1))) (y93.opl.take q)).length : Int)))), (8, u12), (9, .int .i64 ((i : Nat) : Int)), (10, u2), (11, .int .i64 ((q : Nat) : Int))] a ∧ mm = y93.opl.length - q ∧ (q ≤ y93.opl.length) ∧ (bs119 ≤ x.heap.size) ∧ x.ownsRow w.heap.size 47 4 u12 Mk.length (Mk.flatMap entE) ∧ x.ownsRow 0 47 4 u X.length (X.flatMap entE) ∧ x.ownsRow 0 127 3 (y93.ops) y93.opl.length (y93.opl.flatMap opE) ∧ EntsK S w0.heap.size x X ∧ EntsK S w0.heap.size x Mk ∧ x.ownsRow bs119 127 3 u2 (kpL (fT h ((X.take (thM X n)).drop (i + 1))) (y93.opl.take q)).length ((kpL (fT h ((X.take (thM X n)).drop (i + 1))) (y93.opl.take q)).flatMap opE) ∧ But (S) w0 x ∧ Blk x b 41 #[u]) (y93.opl.length - 0) ?_ ?_
       · exact ⟨0, (.slice none 0 0), h125.sub ⟨rfl, rfl, rfl, (slot_eq rfl (congrArg (Value.int .i64) (by first | (simp [kpL]; done) | omega))), rfl, rfl, rfl, (slot_eq rfl (congrArg (Value.int .i64) (by first | rfl | omega))), trivial⟩, rfl, by omega, by omega, hf34, hf35, hy94.row, hf36, hf37, (row_nilL _ _ _ _ _), hB38, hk39⟩
       · rintro k126 a127 w128 ⟨q, u2, h127, rfl, hi129, hi130, hf131, hf132, hf133, hf134, hf135, hf136, hB137, hk138⟩
         have hz139 := hB137.size
         have hl140 := hk138.lt
         have hkl := kpL_le (fT h ((X.take (thM X n)).drop (i + 1))) (y93.opl.take q); rw [List.length_take] at hkl
         refine co_seq ?_
         refine co_seq ?_
         refine co_reg ?_
         refine pk0 (v := .int .i64 ((q : Nat) : Int)) h127 rfl fun a141 h141 => ?_; clear h127
         refine pk0 (v := u12) h141 rfl fun a142 h142 => ?_; clear h141
         refine pk0 (v := .int .i64 ((i : Nat) : Int)) h142 rfl fun a143 h143 => ?_; clear h142
         refine pk (v := pt (blkOf u12) (offOf u12 + i * 4)) h143 rfl (rn_index rfl rfl rfl Try.underlying39 Try.sizeOf47 (row_sl hf131 entE_len) (by omega) (by first | omega | (simp; done) | (simp; omega))) fun a144 h144 => ?_; clear h143
         refine pk0 (v := pt (blkOf u12) (offOf u12 + i * 4)) h144 rfl fun a145 h145 => ?_; clear h144
         refine pk0 (v := pt (blkOf u12) (offOf u12 + i * 4 + 2)) h145 rfl fun a146 h146 => ?_; clear h145
         refine pk (v := y93.ops) h146 rfl (rn_load1 rfl rfl Try.isAgg42 ((sl_at (row_sl hf131 entE_len) hy93) 2 _ rfl)) fun a147 h147 => ?_; clear h146
         refine pk (v := .int .i64 ((y93.opl.length : Nat) : Int)) h147 rfl (rn_lenOwn rfl rfl Try.underlying42 hf133) fun a148 h148 => ?_; clear h147
         refine pk0 (v := .bool (decide (((q : Nat) : Int) < ((y93.opl.length : Nat) : Int)))) h148 rfl fun a149 h149 => ?_; clear h148
         refine pl_nil ?_
         refine co_then ?_
         cases hc150 : (decide (((q : Nat) : Int) < ((y93.opl.length : Nat) : Int)))
         ·
          rw [hc150] at h149
          have hp151 : ¬ (((q : Nat) : Int) < ((y93.opl.length : Nat) : Int)) := of_decide_eq_false hc150
          clear hc150
          refine co_false h149 rfl ?_
          refine wp_exit ?_
          refine co_thenX ?_
          refine co_thenX ?_
          refine co_blockX ?_
          refine co_then ?_
          refine co_reg ?_
          refine pk0 (v := u12) h149 rfl fun a152 h152 => ?_; clear h149
          refine pk0 (v := .int .i64 ((i : Nat) : Int)) h152 rfl fun a153 h153 => ?_; clear h152
          refine pk0 (v := u2) h153 rfl fun a154 h154 => ?_; clear h153
          refine pk (v := pt (blkOf u12) (offOf u12 + i * 4)) h154 rfl (rn_index rfl rfl rfl Try.underlying39 Try.sizeOf47 (row_sl hf131 entE_len) (by omega) (by first | omega | (simp; done) | (simp; omega))) fun a155 h155 => ?_; clear h154
          refine pk0 (v := pt (blkOf u12) (offOf u12 + i * 4)) h155 rfl fun a156 h156 => ?_; clear h155
          refine pk0 (v := pt (blkOf u12) (offOf u12 + i * 4 + 2)) h156 rfl fun a157 h157 => ?_; clear h156
          refine pwD h157 rfl (op_storeRow (c := i * 4 + 2) rfl rfl rfl (row_one hf136) Try.sizeOf42 hf131 (flat_lt entE_len (by first | omega | (simp; omega)) (by omega)) (by first | rfl | omega)) ?_; clear h157
          rintro _ w159 a158 ⟨hr160, hz161, hg162⟩ h158
          have hr160' := row_set (y' := (EntT.mk y93.client y93.req u2 (kpL (fT h ((X.take (thM X n)).drop (i + 1))) (y93.opl.take q)) y93.ts)) hr160 entE_len hy93 (by omega) rfl; clear hr160
          have hz163 := hg162.size
          have hE166 := hf135.row hf131 (by decide) hg162
          have hy165 := EntsK.at hE166 hy93
          have hr167 := row_kept_row hf136 hf131 hg162 (by decide)
          have hE164 := EntsK.set (i := i) (z := (EntT.mk y93.client y93.req u2 (kpL (fT h ((X.take (thM X n)).drop (i + 1))) (y93.opl.take q)) y93.ts)) hE166 ⟨row_lows hr167 (Nat.zero_le _), InS.low hr167 (by omega), Nat.le_trans (kpL_le _ _) (by rw [List.length_take]; omega), kpL_all (fun o ho => hy165.each o (List.mem_of_mem_take ho)), hy165.ts0, hy165.ts1, hy165.cl, hy165.rq⟩
          refine pl_nil ?_
          refine co_blockN ?_
          refine co_then ?_
          refine co_reg ?_
          refine pk0 (v := .int .i64 ((i : Nat) : Int)) h158 rfl fun a168 h168 => ?_; clear h158
          refine pk (v := .int .i64 ((i + 1 : Nat) : Int)) h168 rfl (rn_arith' rfl rfl rfl rfl rfl rfl (IntWalk.i64_in _ (by omega)) (by omega)) fun a169 h169 => ?_; clear h168
          refine pk0 (v := .int .i64 ((i + 1 : Nat) : Int)) h169 rfl fun a170 h170 => ?_; clear h169
          refine pl_nil ?_
          refine co_then ?_
          refine ⟨(X.length - (i + 1)), by omega, ?_⟩
          have hq0 : ltE h y93 = true := ltE_t (by omega) (by omega)
          have htk : List.take q y93.opl = y93.opl := List.take_of_length_le (by omega)
          have hi' := rt_yes (y' := (EntT.mk y93.client y93.req u2 (kpL (fT h ((X.take (thM X n)).drop (i + 1))) (y93.opl.take q)) y93.ts)) (by assumption : Mk.map e0 = (rtS X h (thM X n) i).map e0) hiM (by omega) hy93 hq0 (by simp only [e0, htk])
          have hg' := rgD_yes (q := q) (by assumption : Mk.map e0 = (rtS X h (thM X n) i).map e0) hiM (by omega) hy93 hq0 (by omega) (by omega)
          have hr171 := row_kept_ap hf132 hf131 hu17 hg162
          have hE172 := hf134.row hf131 (by decide) hg162
          have hB173 := fbU_row hB137 (InS.low hf131 (by omega)) hg162
          have hk174 := hk138.kept hg162 (own_neT hf131 hk138 (by decide))
          exact ⟨i + 1, (Mk.set i (EntT.mk y93.client y93.req u2 (kpL (fT h ((X.take (thM X n)).drop (i + 1))) (y93.opl.take q)) y93.ts)), h170.sub ⟨rfl, rfl, rfl, (slot_eq rfl (congrArg (Value.int .i64) (by first | exact rgD_0 | (rw [hgj]; exact hg')))), rfl, rfl, trivial⟩, rfl, by omega, by first | exact hi' | (rw [rtS_0]; assumption), hr160', hr171, hE172, hE164, hB173, hk174⟩
         ·
          rw [hc150] at h149
          have hp175 : ((q : Nat) : Int) < ((y93.opl.length : Nat) : Int) := of_decide_eq_true hc150
          clear hc150
          refine co_true h149 rfl ?_
          refine wp_skip ?_
          refine co_then ?_
          refine co_seq ?_
          refine wp_block ?_
          refine co_seq ?_
          refine co_reg ?_
          refine pk0 (v := pt b 0) h149 rfl fun a176 h176 => ?_; clear h149
          refine pk0 (v := .int .i64 ((i : Nat) : Int)) h176 rfl fun a177 h177 => ?_; clear h176
          refine pk0 (v := u12) h177 rfl fun a178 h178 => ?_; clear h177
          refine pk0 (v := .int .i64 ((i : Nat) : Int)) h178 rfl fun a179 h179 => ?_; clear h178
          refine pk (v := pt (blkOf u12) (offOf u12 + i * 4)) h179 rfl (rn_index rfl rfl rfl Try.underlying39 Try.sizeOf47 (row_sl hf131 entE_len) (by omega) (by first | omega | (simp; done) | (simp; omega))) fun a180 h180 => ?_; clear h179
          refine pk0 (v := pt (blkOf u12) (offOf u12 + i * 4)) h180 rfl fun a181 h181 => ?_; clear h180
          refine pk0 (v := pt (blkOf u12) (offOf u12 + i * 4 + 2)) h181 rfl fun a182 h182 => ?_; clear h181
          refine pk (v := y93.ops) h182 rfl (rn_load1 rfl rfl Try.isAgg42 ((sl_at (row_sl hf131 entE_len) hy93) 2 _ rfl)) fun a183 h183 => ?_; clear h182
          refine pk0 (v := .int .i64 ((q : Nat) : Int)) h183 rfl fun a184 h184 => ?_; clear h183
          obtain ⟨y185, hy185⟩ : ∃ z, y93.opl[q]? = some z := ⟨_, List.getElem?_eq_getElem (by first | omega | (simp; done) | (simp; omega))⟩
          refine pk (v := pt (blkOf (y93.ops)) (offOf (y93.ops) + q * 3)) h184 rfl (rn_index rfl rfl rfl Try.underlying42 Try.sizeOf127 (row_sl hf133 opE_len) (by omega) (by first | omega | (simp; done) | (simp; omega))) fun a186 h186 => ?_; clear h184
          refine pk0 (v := pt (blkOf (y93.ops)) (offOf (y93.ops) + q * 3)) h186 rfl fun a187 h187 => ?_; clear h186
          refine pk (v := .string y185.1) h187 rfl (rn_load1 rfl rfl Try.isAgg9 ((sl_at (row_sl hf133 opE_len) hy185) 0 _ rfl)) fun a188 h188 => ?_; clear h187
          refine pk0 (v := .int .u64 h) h188 rfl fun a189 h189 => ?_; clear h188
          refine pk0 (v := .int .i64 n) h189 rfl fun a190 h190 => ?_; clear h189
          refine pw h190 rfl (op_call (args := #[pt b 0, .int .i64 ((i : Nat) : Int), .string y185.1, .int .u64 h, .int .i64 n]) (R := fun res xw => res = .bool (latB X i y185.1 h n) ∧ Below w128.heap.size w128 xw) rfl rfl rfl (by kernel_rfl) (by kernel_rfl) (Try.call105 _ _) (rLater_any b u X i y185.1 h n w128 hk138 (row_sl hf132 entE_len) (entsK_got hf134) (fun z hz => (hf134 z hz).len) hO.len hiM hh hni) (by rintro e x ⟨rfl, hb193⟩; exact ⟨_, rfl, ⟨rfl, hb193⟩⟩)) ?_; clear h190
          rintro _ w192 a191 ⟨rfl, hb193⟩ h191
          have hz194 := hb193.size
          refine pl_nil ?_
          refine co_then ?_
          have hB196 := fbU_call hB137 hb193
          cases hc195 : (latB X i y185.1 h n)
          ·
           rw [hc195] at h191
           refine co_false h191 rfl ?_
           refine co_reg ?_
           refine pk0 (v := u2) h191 rfl fun a197 h197 => ?_; clear h191
           refine pk0 (v := u12) h197 rfl fun a198 h198 => ?_; clear h197
           refine pk0 (v := .int .i64 ((i : Nat) : Int)) h198 rfl fun a199 h199 => ?_; clear h198
           have hr200 := row_kept_new hf131 (below_grown hb193)
           refine pk (v := pt (blkOf u12) (offOf u12 + i * 4)) h199 rfl (rn_index rfl rfl rfl Try.underlying39 Try.sizeOf47 (row_sl hr200 entE_len) (by omega) (by first | omega | (simp; done) | (simp; omega))) fun a201 h201 => ?_; clear h199
           refine pk0 (v := pt (blkOf u12) (offOf u12 + i * 4)) h201 rfl fun a202 h202 => ?_; clear h201
           refine pk0 (v := pt (blkOf u12) (offOf u12 + i * 4 + 2)) h202 rfl fun a203 h203 => ?_; clear h202
           refine pk (v := y93.ops) h203 rfl (rn_load1 rfl rfl Try.isAgg42 ((sl_at (row_sl hr200 entE_len) hy93) 2 _ rfl)) fun a204 h204 => ?_; clear h203
           refine pk0 (v := .int .i64 ((q : Nat) : Int)) h204 rfl fun a205 h205 => ?_; clear h204
           have hr206 := row_kept_new hf133 (below_grown hb193)
           refine pk (v := pt (blkOf (y93.ops)) (offOf (y93.ops) + q * 3)) h205 rfl (rn_index rfl rfl rfl Try.underlying42 Try.sizeOf127 (row_sl hr206 opE_len) (by omega) (by first | omega | (simp; done) | (simp; omega))) fun a207 h207 => ?_; clear h205
           refine pk (v := .agg #[.string y185.1, .string y185.2.1, .bool y185.2.2]) h207 rfl (rn_loadN rfl rfl Try.underlying127 rfl (by kernel_rfl) (sl_at (row_sl hr206 opE_len) hy185)) fun a208 h208 => ?_; clear h207
           refine pw h208 rfl (op_new (v := fun N => .slice (some ⟨N, 0, none⟩) 1 1) (T := 127) (cs := #[.string y185.1, .string y185.2.1, .bool y185.2.2]) (by kernel_rfl) (by kernel_rfl) (by kernel_rfl)) ?_; clear h208
           rintro _ w210 a209 ⟨N211, rfl, hN214, hz215, hk213, hg212⟩ h209
           have ha216 := row_fresh hr200 hN214
           have hu217 := row_under hr200 hN214
           have hr219 := row_kept_new hf132 (below_grown hb193)
           have ha218 := row_fresh hr219 hN214
           have hu220 := row_under hr219 hN214
           have ha221 := row_fresh hr206 hN214
           have hu222 := row_under hr206 hN214
           have hr224 := row_kept_new hf136 (below_grown hb193)
           have ha223 := row_fresh hr224 hN214
           have hu225 := row_under hr224 hN214
           have hz226 := hg212.size
           have hE228 := hf134.new (below_grown hb193)
           have hu227 := EntsK.under hE228 hN214
           have hE230 := hf135.new (below_grown hb193)
           have hu229 := EntsK.under hE230 hN214
           try dsimp only at h209
           have hr237 := row_kept_new hr224 hg212
           refine pw h209 rfl (op_append rfl bs119 127 (z := .agg #[.string (⟨#[]⟩), .string (⟨#[]⟩), .bool false]) (size := 3) (bytes := 40) Try.underlying42 (by kernel_rfl) rfl rfl rfl hr237 rfl hk213 rfl (by kernel_rfl) (by first | omega | (simp only [List.length_nil, List.length_append, List.length_cons, List.length_take, List.length_drop]; omega)) (by first | omega | (simp only [List.length_nil, List.length_append, List.length_cons, List.length_take, List.length_drop]; omega)) (by omega)) ?_; clear h209
           rintro v233 w232 a231 ⟨hr234, hg235⟩ h231
           have hr234' : w232.ownsRow bs119 127 3 v233 (((kpL (fT h ((X.take (thM X n)).drop (i + 1))) (y93.opl.take q)) ++ [(y185.1, y185.2.1, y185.2.2)]).length) (((kpL (fT h ((X.take (thM X n)).drop (i + 1))) (y93.opl.take q)) ++ [(y185.1, y185.2.1, y185.2.2)]).flatMap opE) := row_push (y := (y185.1, y185.2.1, y185.2.2)) hr234 rfl rfl; clear hr234
           have hz238 := hg235.size
           refine pk0 (v := v233) h231 rfl fun a239 h239 => ?_; clear h231
           refine pl_nil ?_
           refine co_blockN ?_
           refine co_then ?_
           refine co_reg ?_
           refine pk0 (v := .int .i64 ((q : Nat) : Int)) h239 rfl fun a240 h240 => ?_; clear h239
           refine pk (v := .int .i64 ((q + 1 : Nat) : Int)) h240 rfl (rn_arith' rfl rfl rfl rfl rfl rfl (IntWalk.i64_in _ (by omega)) (by omega)) fun a241 h241 => ?_; clear h240
           refine pk0 (v := .int .i64 ((q + 1 : Nat) : Int)) h241 rfl fun a242 h242 => ?_; clear h241
           refine pl_nil ?_
           refine co_then ?_
           refine ⟨(y93.opl.length - (q + 1)), by omega, ?_⟩
           have hlt : decide (fT h ((X.take (thM X n)).drop (i + 1)) y185.1 ≠ 0) = false := hc195
           have hkq := kq_yes_len hy185 hlt
           have hr243 := row_kept_new hr200 hg212
           have hr244 := row_kept_ap hr243 hr237 hu120 hg235
           have hr245 := row_kept_new hr219 hg212
           have hr246 := row_kept_ap hr245 hr237 hu121 hg235
           have hr247 := row_kept_new hr206 hg212
           have hr248 := row_kept_ap hr247 hr237 hu122 hg235
           have hE249 := hE228.new hg212
           have hE250 := hE249.rowU hu124 hr237 hg235
           have hE251 := hE230.new hg212
           have hE252 := hE251.rowU hu123 hr237 hg235
           have hB253 := fbU_new hB196 hg212
           have hB254 := fbU_row hB253 (InS.low hr237 (by omega)) hg235
           have hk255 := hk138.below hb193
           have hk256 := hk255.kept hg212 (by simp)
           have hk257 := hk256.kept hg235 (own_neT hr237 hk256 (by decide))
           exact ⟨q + 1, v233, h242.sub ⟨rfl, rfl, rfl, (slot_eq rfl (congrArg (Value.int .i64) (by first | (simp [kpL]; done) | omega))), rfl, rfl, rfl, rfl, trivial⟩, rfl, by omega, by omega, hr244, hr246, hr248, hE250, hE252, (row_eq hr234' (by first | rfl | exact kq_yes (by assumption) hlt | exact kq_no (by assumption) hlt)), hB254, hk257⟩
          ·
           rw [hc195] at h191
           refine co_true h191 rfl ?_
           refine co_reg ?_
           refine pk0 (v := .int .i64 (gj + ((q : Int) - ((kpL (fT h ((X.take (thM X n)).drop (i + 1))) (y93.opl.take q)).length : Int)))) h191 rfl fun a258 h258 => ?_; clear h191
           refine pk (v := .int .i64 ((gj + ((q : Int) - ((kpL (fT h ((X.take (thM X n)).drop (i + 1))) (y93.opl.take q)).length : Int))) + 1)) h258 rfl (rn_arith rfl rfl rfl rfl rfl rfl (IntWalk.i64_in _ (by omega))) fun a259 h259 => ?_; clear h258
           refine pk0 (v := .int .i64 ((gj + ((q : Int) - ((kpL (fT h ((X.take (thM X n)).drop (i + 1))) (y93.opl.take q)).length : Int))) + 1)) h259 rfl fun a260 h260 => ?_; clear h259
           refine pl_nil ?_
           refine co_blockN ?_
           refine co_then ?_
           refine co_reg ?_
           refine pk0 (v := .int .i64 ((q : Nat) : Int)) h260 rfl fun a261 h261 => ?_; clear h260
           refine pk (v := .int .i64 ((q + 1 : Nat) : Int)) h261 rfl (rn_arith' rfl rfl rfl rfl rfl rfl (IntWalk.i64_in _ (by omega)) (by omega)) fun a262 h262 => ?_; clear h261
           refine pk0 (v := .int .i64 ((q + 1 : Nat) : Int)) h262 rfl fun a263 h263 => ?_; clear h262
           refine pl_nil ?_
           refine co_then ?_
           refine ⟨(y93.opl.length - (q + 1)), by omega, ?_⟩
           have hlt : decide (fT h ((X.take (thM X n)).drop (i + 1)) y185.1 ≠ 0) = true := hc195
           have hkq := kq_no_len hy185 hlt
           have hr264 := row_kept_new hf131 (below_grown hb193)
           have hr265 := row_kept_new hf132 (below_grown hb193)
           have hr266 := row_kept_new hf133 (below_grown hb193)
           have hE267 := hf134.new (below_grown hb193)
           have hE268 := hf135.new (below_grown hb193)
           have hr269 := row_kept_new hf136 (below_grown hb193)
           have hk270 := hk138.below hb193
           exact ⟨q + 1, u2, h263.sub ⟨rfl, rfl, rfl, (slot_eq rfl (congrArg (Value.int .i64) (by first | (simp [kpL]; done) | omega))), rfl, rfl, rfl, rfl, trivial⟩, rfl, by omega, by omega, hr264, hr265, hr266, hE267, hE268, (row_eq hr269 (by first | rfl | exact kq_yes (by assumption) hlt | exact kq_no (by assumption) hlt)), hB196, hk270⟩
      ·
       rw [hc115] at h114
       have hp271 : y93.ts > h := of_decide_eq_true hc115
       clear hc115
       refine co_true h114 rfl ?_
       refine wp_exit ?_
       refine co_thenX ?_
       refine co_blockX ?_
       refine co_then ?_
       refine co_reg ?_
       refine pk0 (v := .int .i64 ((i : Nat) : Int)) h114 rfl fun a272 h272 => ?_; clear h114
       refine pk (v := .int .i64 ((i + 1 : Nat) : Int)) h272 rfl (rn_arith' rfl rfl rfl rfl rfl rfl (IntWalk.i64_in _ (by omega)) (by omega)) fun a273 h273 => ?_; clear h272
       refine pk0 (v := .int .i64 ((i + 1 : Nat) : Int)) h273 rfl fun a274 h274 => ?_; clear h273
       refine pl_nil ?_
       refine co_then ?_
       refine ⟨(X.length - (i + 1)), by omega, ?_⟩
       have hiM := thM_lt (X := X) (n := n) (i := i) (by omega) (by omega)
       have hq0 : ltE h y93 = false := ltE_f (by omega)
       have hi' := rt_no (by assumption : Mk.map e0 = (rtS X h (thM X n) i).map e0) hiM (by omega) hy93 hq0
       have hg' := rgD_no (by assumption : Mk.map e0 = (rtS X h (thM X n) i).map e0) hiM (by omega) hy93 hq0
       exact ⟨i + 1, Mk, h274.sub ⟨rfl, rfl, rfl, (slot_eq rfl (congrArg (Value.int .i64) (by first | exact rgD_0 | (rw [hgj]; exact hg')))), rfl, rfl, trivial⟩, rfl, by omega, by first | exact hi' | (rw [rtS_0]; assumption), hf34, hf35, hf36, hf37, hB38, hk39⟩
     ·
      rw [hc105] at h104
      have hp275 : y93.ts = 0 := by first | simpa using hc105 | simpa [and_assoc] using hc105
      clear hc105
      refine psk h104 rfl fun a276 h276 => ?_; clear h104
      refine psk h276 rfl fun a277 h277 => ?_; clear h276
      refine psk h277 rfl fun a278 h278 => ?_; clear h277
      refine psk h278 rfl fun a279 h279 => ?_; clear h278
      refine psk h279 rfl fun a280 h280 => ?_; clear h279
      refine psk h280 rfl fun a281 h281 => ?_; clear h280
      refine psk h281 rfl fun a282 h282 => ?_; clear h281
      refine pk0 (v := .bool true) h282 rfl fun a283 h283 => ?_; clear h282
      refine pl_nil ?_
      refine co_then ?_
      refine co_true h283 rfl ?_
      refine wp_exit ?_
      refine co_thenX ?_
      refine co_blockX ?_
      refine co_then ?_
      refine co_reg ?_
      refine pk0 (v := .int .i64 ((i : Nat) : Int)) h283 rfl fun a284 h284 => ?_; clear h283
      refine pk (v := .int .i64 ((i + 1 : Nat) : Int)) h284 rfl (rn_arith' rfl rfl rfl rfl rfl rfl (IntWalk.i64_in _ (by omega)) (by omega)) fun a285 h285 => ?_; clear h284
      refine pk0 (v := .int .i64 ((i + 1 : Nat) : Int)) h285 rfl fun a286 h286 => ?_; clear h285
      refine pl_nil ?_
      refine co_then ?_
      refine ⟨(X.length - (i + 1)), by omega, ?_⟩
      have hiM := thM_lt (X := X) (n := n) (i := i) (by omega) (by omega)
      have hq0 : ltE h y93 = false := ltE_f (by omega)
      have hi' := rt_no (by assumption : Mk.map e0 = (rtS X h (thM X n) i).map e0) hiM (by omega) hy93 hq0
      have hg' := rgD_no (by assumption : Mk.map e0 = (rtS X h (thM X n) i).map e0) hiM (by omega) hy93 hq0
      exact ⟨i + 1, Mk, h286.sub ⟨rfl, rfl, rfl, (slot_eq rfl (congrArg (Value.int .i64) (by first | exact rgD_0 | (rw [hgj]; exact hg')))), rfl, rfl, trivial⟩, rfl, by omega, by first | exact hi' | (rw [rtS_0]; assumption), hf34, hf35, hf36, hf37, hB38, hk39⟩
end Go.Proofs.Ythmnndbpadegnaa
