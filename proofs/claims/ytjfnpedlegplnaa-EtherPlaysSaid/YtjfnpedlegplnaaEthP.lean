/- catenalaw21: EtherPlays. Conditions: none. -/
import Derived.Test.YtjfnpedlegplnaaEthL
namespace Go.Proofs.Ytjfnpedlegplnaa
open Go.RowKit Go.PlainAid
set_option linter.unusedVariables false

set_option maxRecDepth 100000 in
theorem etherPlays_law (v : Value) (l : List ActT) (w : World) (hs : SliceOf actE 5 w v l) (hok : ∀ z ∈ l, actOk z) :
    Calls Try.prog 12 #[v] w fun e w' => e = .returned (.bool true) ∧ Below w.heap.size w w' := by
 have hB0 := Below.refl w.heap.size w
 have hl_hs := sl_len hs
 refine co_enter (n := 141) Try.func12 rfl rfl rfl [(0, v)] rfl (fun a h0 => ?_)
 refine co_seq ?_
 refine co_reg ?_
 refine pk0 (v := .bool false) h0 rfl fun a1 h1 => ?_; clear h0
 refine pl_nil ?_
 refine co_then ?_
 refine co_seq ?_
 refine co_reg ?_
 refine pw h1 rfl (op_call (args := #[]) (R := fun res xw => ∃ b : Nat, res = pt b 0 ∧ b = w.heap.size ∧ Eth xw b (.slice none 0 0) [] 0 ∧ Below w.heap.size w xw) rfl rfl rfl (by kernel_rfl) (by kernel_rfl) (Try.call59 _ _) (enew_any w) (by rintro e x ⟨rfl, h0, h1⟩; exact ⟨_, rfl, _, rfl, rfl, h0, h1⟩)) ?_; clear h1
 rintro _ w3 a2 ⟨b4, rfl, hN5, hE6, hb7⟩ h2
 have hz8 := hb7.size
 have hl9 := hE6.lt
 refine pk0 (v := pt b4 0) h2 rfl fun a10 h10 => ?_; clear h2
 refine pl_nil ?_
 refine co_then ?_
 refine co_seq ?_
 refine co_reg ?_
 refine pk0 (v := .agg #[.slice none 0 0, .int .i64 0]) h10 rfl fun a11 h11 => ?_; clear h10
 refine pw h11 rfl (op_new (v := fun N => pt N 0) (T := 108) (cs := #[.slice none 0 0, .int .i64 0]) (by kernel_rfl) (by kernel_rfl) (by kernel_rfl)) ?_; clear h11
 rintro _ w13 a12 ⟨N14, rfl, hN17, hz18, hk16, hg15⟩ h12
 have hz19 := hg15.size
 try dsimp only at h12
 refine pk0 (v := pt N14 0) h12 rfl fun a20 h20 => ?_; clear h12
 refine pl_nil ?_
 refine co_then ?_
 refine co_seq ?_
 refine co_seq ?_
 refine co_reg ?_
 refine pk0 (v := .int .i64 0) h20 rfl fun a21 h21 => ?_; clear h20
 refine pl_nil ?_
 refine co_then ?_
 refine wp_block ?_
 have h22 : Slots 141 [(0, v), (2, .bool false), (3, pt b4 0), (4, pt N14 0), (5, .int .i64 0)] _ := h21.sub ⟨rfl, rfl, rfl, rfl, rfl, trivial⟩; clear h21
 refine co_loop (fun mm a x => ∃ (i : Nat) (v1 : Value) (k : List PktT) (n : Int) (v2 : Value), Slots 141 [(0, v), (2, .bool false), (3, pt b4 0), (4, pt N14 0), (5, .int .i64 ((i : Nat) : Int))] a ∧ mm = l.length - i ∧ (i ≤ l.length) ∧ (k.length ≤ 400) ∧ (0 ≤ n ∧ n ≤ 1073741824) ∧ Two w.heap.size w x b4 v1 k n N14 v2 k n ∧ Below w.heap.size w x) (l.length - 0) ?_ ?_
 have hE23 := hE6.kept (hb_new (Below.refl _ _) hg15)
 have hB24 := hb_call hB0 hb7
 have hB25 := hb_new hB24 hg15
 · exact ⟨0, (.slice none 0 0), [], 0, (.slice none 0 0), h22.sub ⟨rfl, rfl, rfl, rfl, (slot_eq rfl (congrArg (Value.int .i64) (by first | rfl | omega))), trivial⟩, rfl, by omega, by first | omega | (simp; done), by omega, (two_make hE23 hk16 (by omega) (by omega) (by omega) hB25 (by omega)), hB25⟩
 · rintro k26 a27 w28 ⟨i, v1, k, n, v2, h27, rfl, hi29, hi30, hi31, hf32, hB33⟩
   have hz34 := hB33.size
   have hv35 := hf32.own
   have hk36 : Blk w28 N14 108 #[v2, .int .i64 n] := hf32.r.blk
   have hl38 := hk36.lt
   have hr37 := hf32.r.row
   refine co_seq ?_
   refine co_seq ?_
   refine co_reg ?_
   refine pk0 (v := .int .i64 ((i : Nat) : Int)) h27 rfl fun a39 h39 => ?_; clear h27
   refine pk0 (v := v) h39 rfl fun a40 h40 => ?_; clear h39
   refine pk (v := .int .i64 ((l.length : Nat) : Int)) h40 rfl (rn_len rfl rfl Try.underlying102 (hs.below hB33)) fun a41 h41 => ?_; clear h40
   refine pk0 (v := .bool (decide (((i : Nat) : Int) < ((l.length : Nat) : Int)))) h41 rfl fun a42 h42 => ?_; clear h41
   refine pk0 (v := .bool (decide (((i : Nat) : Int) < ((l.length : Nat) : Int)))) h42 rfl fun a43 h43 => ?_; clear h42
   cases hc44 : (decide (((i : Nat) : Int) < ((l.length : Nat) : Int)))
   ·
    rw [hc44] at h43
    have hp45 : ¬ (((i : Nat) : Int) < ((l.length : Nat) : Int)) := of_decide_eq_false hc44
    clear hc44
    refine psk h43 rfl fun a46 h46 => ?_; clear h43
    refine psk h46 rfl fun a47 h47 => ?_; clear h46
    refine pk0 (v := .bool false) h47 rfl fun a48 h48 => ?_; clear h47
    refine pl_nil ?_
    refine co_then ?_
    refine co_false h48 rfl ?_
    refine wp_exit ?_
    refine co_thenX ?_
    refine co_thenX ?_
    refine co_blockX ?_
    refine co_then ?_
    refine co_seq ?_
    refine co_reg ?_
    refine pw h48 rfl (op_call (args := #[]) (R := fun res xw => res = .bool true ∧ Below w28.heap.size w28 xw) rfl rfl rfl (by kernel_rfl) (by kernel_rfl) (Try.call72 _ _) (awake21  w28 ) (by rintro e x ⟨rfl, hb51⟩; exact ⟨_, rfl, ⟨rfl, hb51⟩⟩)) ?_; clear h48
    rintro _ w50 a49 ⟨rfl, hb51⟩ h49
    have hz52 := hb51.size
    refine pk0 (v := .bool true) h49 rfl fun a53 h53 => ?_; clear h49
    refine pl_nil ?_
    refine co_then ?_
    refine wp_ret ?_
    refine co_ret1 h53 rfl rfl ?_
    have hB54 := hb_call hB33 hb51
    exact ⟨rfl, hB54⟩
   ·
    rw [hc44] at h43
    have hp55 : ((i : Nat) : Int) < ((l.length : Nat) : Int) := of_decide_eq_true hc44
    clear hc44
    refine pk0 (v := .int .i64 ((i : Nat) : Int)) h43 rfl fun a56 h56 => ?_; clear h43
    refine pk0 (v := .bool (decide (((i : Nat) : Int) < 60))) h56 rfl fun a57 h57 => ?_; clear h56
    refine pk0 (v := .bool (decide (((i : Nat) : Int) < 60))) h57 rfl fun a58 h58 => ?_; clear h57
    refine pl_nil ?_
    refine co_then ?_
    cases hc59 : (decide (((i : Nat) : Int) < 60))
    ·
     rw [hc59] at h58
     have hp60 : ¬ (((i : Nat) : Int) < 60) := of_decide_eq_false hc59
     clear hc59
     refine co_false h58 rfl ?_
     refine wp_exit ?_
     refine co_thenX ?_
     refine co_thenX ?_
     refine co_blockX ?_
     refine co_then ?_
     refine co_seq ?_
     refine co_reg ?_
     refine pw h58 rfl (op_call (args := #[]) (R := fun res xw => res = .bool true ∧ Below w28.heap.size w28 xw) rfl rfl rfl (by kernel_rfl) (by kernel_rfl) (Try.call72 _ _) (awake21  w28 ) (by rintro e x ⟨rfl, hb63⟩; exact ⟨_, rfl, ⟨rfl, hb63⟩⟩)) ?_; clear h58
     rintro _ w62 a61 ⟨rfl, hb63⟩ h61
     have hz64 := hb63.size
     refine pk0 (v := .bool true) h61 rfl fun a65 h65 => ?_; clear h61
     refine pl_nil ?_
     refine co_then ?_
     refine wp_ret ?_
     refine co_ret1 h65 rfl rfl ?_
     have hB66 := hb_call hB33 hb63
     exact ⟨rfl, hB66⟩
    ·
     rw [hc59] at h58
     have hp67 : ((i : Nat) : Int) < 60 := of_decide_eq_true hc59
     clear hc59
     refine co_true h58 rfl ?_
     refine wp_skip ?_
     refine co_then ?_
     refine co_seq ?_
     refine wp_block ?_
     refine co_seq ?_
     refine co_reg ?_
     refine pk0 (v := .bool true) h58 rfl fun a68 h68 => ?_; clear h58
     refine pl_nil ?_
     refine co_then ?_
     refine co_seq ?_
     refine co_seq ?_
     refine co_reg ?_
     refine pk0 (v := v) h68 rfl fun a69 h69 => ?_; clear h68
     refine pk0 (v := .int .i64 ((i : Nat) : Int)) h69 rfl fun a70 h70 => ?_; clear h69
     obtain ⟨y71, hy71⟩ : ∃ z, l[i]? = some z := ⟨_, List.getElem?_eq_getElem (by first | omega | (simp; done) | (simp; omega))⟩
     have oky71 := hok _ (List.mem_of_getElem? hy71)
     refine pk (v := pt (blkOf v) (offOf v + i * 5)) h70 rfl (rn_index rfl rfl rfl Try.underlying102 Try.sizeOf112 (hs.below hB33) (by omega) (by first | omega | (simp; done) | (simp; omega))) fun a72 h72 => ?_; clear h70
     refine pk0 (v := pt (blkOf v) (offOf v + i * 5)) h72 rfl fun a73 h73 => ?_; clear h72
     refine pk (v := .int .i64 y71.1) h73 rfl (rn_load1 rfl rfl Try.isAgg3 ((sl_at (hs.below hB33) hy71) 0 _ rfl)) fun a74 h74 => ?_; clear h73
     refine pl_nil ?_
     refine co_then ?_
     refine wp_block ?_
     refine co_seq ?_
     refine co_seq ?_
     refine co_reg ?_
     refine pk0 (v := .bool (y71.1 == 0)) h74 rfl fun a75 h75 => ?_; clear h74
     refine pk0 (v := .bool (y71.1 == 0)) h75 rfl fun a76 h76 => ?_; clear h75
     refine pl_nil ?_
     refine co_then ?_
     cases hc77 : (y71.1 == 0)
     ·
      rw [hc77] at h76
      have hp78 : ¬ (y71.1 = 0) := by first | simpa using hc77 | simpa [and_assoc] using hc77
      clear hc77
      refine co_false h76 rfl ?_
      refine co_reg ?_
      refine pk0 (v := .bool (y71.1 == 1)) h76 rfl fun a79 h79 => ?_; clear h76
      refine pk0 (v := .bool (y71.1 == 1)) h79 rfl fun a80 h80 => ?_; clear h79
      refine pl_nil ?_
      refine co_then ?_
      cases hc81 : (y71.1 == 1)
      ·
       rw [hc81] at h80
       have hp82 : ¬ (y71.1 = 1) := by first | simpa using hc81 | simpa [and_assoc] using hc81
       clear hc81
       refine co_false h80 rfl ?_
       refine co_seq ?_
       refine co_reg ?_
       refine pk0 (v := .bool (y71.1 == 2)) h80 rfl fun a83 h83 => ?_; clear h80
       refine pk0 (v := .bool (y71.1 == 2)) h83 rfl fun a84 h84 => ?_; clear h83
       refine pl_nil ?_
       refine co_then ?_
       cases hc85 : (y71.1 == 2)
       ·
        rw [hc85] at h84
        have hp86 : ¬ (y71.1 = 2) := by first | simpa using hc85 | simpa [and_assoc] using hc85
        clear hc85
        refine co_false h84 rfl ?_
        refine co_seq ?_
        refine co_reg ?_
        refine pk0 (v := .bool (y71.1 == 3)) h84 rfl fun a87 h87 => ?_; clear h84
        refine pk0 (v := .bool (y71.1 == 3)) h87 rfl fun a88 h88 => ?_; clear h87
        refine pl_nil ?_
        refine co_then ?_
        cases hc89 : (y71.1 == 3)
        ·
         rw [hc89] at h88
         have hp90 : ¬ (y71.1 = 3) := by first | simpa using hc89 | simpa [and_assoc] using hc89
         clear hc89
         refine co_false h88 rfl ?_
         refine dr_gen (fun x => Below w.heap.size w x) (by kernel_rfl) (fun w91 hg92 => ?_) (fun w91 hg92 => ?_)
         ·
          have hz93 := hg92.size
          have hB94 := hb_new hB33 hg92
          exact hB94
         have hz95 := hg92.size
         have hB96 := hb_new hB33 hg92
         refine dk0 0 (v := pt b4 0) h88 rfl rfl hB96 fun a97 h97 => ?_; clear h88
         refine dk0 1 (v := v) h97 rfl rfl hB96 fun a98 h98 => ?_; clear h97
         refine dk0 2 (v := .int .i64 ((i : Nat) : Int)) h98 rfl rfl hB96 fun a99 h99 => ?_; clear h98
         refine dk 3 (v := pt (blkOf v) (offOf v + i * 5)) h99 rfl rfl hB96 (fun x hx => (rn_index rfl rfl rfl Try.underlying102 Try.sizeOf112 (hs.below hx) (by omega) (by first | omega | (simp; done) | (simp; omega)))) fun a100 h100 => ?_; clear h99
         refine dk0 4 (v := pt (blkOf v) (offOf v + i * 5 + 4)) h100 rfl rfl hB96 fun a101 h101 => ?_; clear h100
         refine dk 5 (v := .int .i64 y71.2.2) h101 rfl rfl hB96 (fun x hx => (rn_load1 rfl rfl Try.isAgg3 ((sl_at (hs.below hx) hy71) 4 _ rfl))) fun a102 h102 => ?_; clear h101
         refine dk0 7 (v := pt N14 0) h102 rfl rfl hB96 fun a103 h103 => ?_; clear h102
         refine dk0 8 (v := v) h103 rfl rfl hB96 fun a104 h104 => ?_; clear h103
         refine dk0 9 (v := .int .i64 ((i : Nat) : Int)) h104 rfl rfl hB96 fun a105 h105 => ?_; clear h104
         refine dk 10 (v := pt (blkOf v) (offOf v + i * 5)) h105 rfl rfl hB96 (fun x hx => (rn_index rfl rfl rfl Try.underlying102 Try.sizeOf112 (hs.below hx) (by omega) (by first | omega | (simp; done) | (simp; omega)))) fun a106 h106 => ?_; clear h105
         refine dk0 11 (v := pt (blkOf v) (offOf v + i * 5 + 4)) h106 rfl rfl hB96 fun a107 h107 => ?_; clear h106
         refine dk 12 (v := .int .i64 y71.2.2) h107 rfl rfl hB96 (fun x hx => (rn_load1 rfl rfl Try.isAgg3 ((sl_at (hs.below hx) hy71) 4 _ rfl))) fun a108 h108 => ?_; clear h107
         obtain ⟨r111, k112, hq115⟩ : ∃ r111 k112, dblR y71.2.2 k = (r111, k112) := ⟨_, _, rfl⟩
         have hbd116 := dbl_bd hq115 (by omega)
         have hE120 := hf32.kept (hb_new (Below.refl _ _) hg92)
         refine d1 6 h108 rfl rfl (op_call (args := #[pt b4 0, .int .i64 y71.2.2]) (R := fun res xw => res = .int .i64 r111 ∧ ∃ v', Two w.heap.size w xw b4 v' k112 n N14 v2 k n ∧ w91.heap.size ≤ xw.heap.size) rfl rfl rfl (by kernel_rfl) (by kernel_rfl) (Try.call66 _ _) (two_edouble hE120 hq115 oky71) (by rintro e x ⟨rfl, v', h1, h2⟩; exact ⟨_, rfl, rfl, v', h1, h2⟩)) ?_ ?_; clear h108
         ·
          rintro _ w110 ⟨rfl, v117, hT118, hx119⟩
          have hB121 := hT118.bel
          have hv122 := hT118.own
          have hk123 : Blk w110 N14 108 #[v2, .int .i64 n] := hT118.r.blk
          have hl125 := hk123.lt
          have hr124 := hT118.r.row
          exact hB121
         rintro _ w110 a109 ⟨rfl, v117, hT118, hx119⟩ h109
         have hB121 := hT118.bel
         have hv122 := hT118.own
         have hk123 : Blk w110 N14 108 #[v2, .int .i64 n] := hT118.r.blk
         have hl125 := hk123.lt
         have hr124 := hT118.r.row
         refine d1 13 h109 rfl rfl (op_call (args := #[pt N14 0, .int .i64 y71.2.2]) (R := fun res xw => res = .int .i64 r111 ∧ ∃ v', Two w.heap.size w xw b4 v117 k112 n N14 v' k112 n ∧ But (fun i => i = N14) w110 xw) rfl rfl rfl (by kernel_rfl) (by kernel_rfl) (Try.call67 _ _) (two_rdouble hT118 hq115 oky71) (by rintro e x ⟨rfl, v', h1, h2⟩; exact ⟨_, rfl, rfl, v', h1, h2⟩)) ?_ ?_; clear h109
         ·
          rintro _ w127 ⟨rfl, v128, hT129, hx130⟩
          have hz131 := hx130.size
          have hB132 := hT129.bel
          have hv133 := hT129.own
          have hk134 : Blk w127 N14 108 #[v128, .int .i64 n] := hT129.r.blk
          have hl136 := hk134.lt
          have hr135 := hT129.r.row
          exact hB132
         rintro _ w127 a126 ⟨rfl, v128, hT129, hx130⟩ h126
         have hz131 := hx130.size
         have hB132 := hT129.bel
         have hv133 := hT129.own
         have hk134 : Blk w127 N14 108 #[v128, .int .i64 n] := hT129.r.blk
         have hl136 := hk134.lt
         have hr135 := hT129.r.row
         refine dk0 14 (v := .bool (r111 == r111)) h126 rfl rfl hB132 fun a137 h137 => ?_; clear h126
         refine dk0 15 (v := .bool (r111 == r111)) h137 rfl rfl hB132 fun a138 h138 => ?_; clear h137
         refine dr_done (by kernel_rfl) ?_
         refine co_blockN ?_
         refine co_then ?_
         refine co_seq ?_
         refine dr_gen (fun x => Below w.heap.size w x ∧ Blk x N14 108 #[v128, .int .i64 n] ∧ x.ownsRow (N14 + 1) 110 3 v128 k112.length (k112.flatMap pktE)) (by kernel_rfl) (fun w139 hg140 => ?_) (fun w139 hg140 => ?_)
         ·
          have hz141 := hg140.size
          have hB142 := hb_new hB132 hg140
          have hk143 := hk134.kept hg140 (by simp)
          have hr144 := row_kept_new hr135 hg140
          exact ⟨hB142, hk143, hr144⟩
         have hz145 := hg140.size
         have hB146 := hb_new hB132 hg140
         have hk147 := hk134.kept hg140 (by simp)
         have hr148 := row_kept_new hr135 hg140
         refine dk0 0 (v := .bool (r111 == r111)) h138 rfl rfl ⟨hB146, hk147, hr148⟩ fun a149 h149 => ?_; clear h138
         have hc150 : (r111 == r111) = true := by first | (simp; done) | (simp; omega)
         rw [hc150] at h149; clear hc150
         refine dk0 1 (v := .bool false) h149 rfl rfl ⟨hB146, hk147, hr148⟩ fun a151 h151 => ?_; clear h149
         refine dk0 2 (v := .bool false) h151 rfl rfl ⟨hB146, hk147, hr148⟩ fun a152 h152 => ?_; clear h151
         refine dk0 3 (v := pt b4 0) h152 rfl rfl ⟨hB146, hk147, hr148⟩ fun a153 h153 => ?_; clear h152
         refine dk0 5 (v := pt N14 0) h153 rfl rfl ⟨hB146, hk147, hr148⟩ fun a154 h154 => ?_; clear h153
         refine dk0 6 (v := pt N14 0) h154 rfl rfl ⟨hB146, hk147, hr148⟩ fun a155 h155 => ?_; clear h154
         refine dk0 7 (v := pt N14 0) h155 rfl rfl ⟨hB146, hk147, hr148⟩ fun a156 h156 => ?_; clear h155
         refine dk 8 (v := v128) h156 rfl rfl ⟨hB146, hk147, hr148⟩ (fun x hx => (rn_load1 rfl rfl Try.isAgg106 (hx.2.1.cell rfl))) fun a157 h157 => ?_; clear h156
         refine dk 9 (v := .int .i64 ((k112.length : Nat) : Int)) h157 rfl rfl ⟨hB146, hk147, hr148⟩ (fun x hx => (rn_lenOwn rfl rfl Try.underlying106 hx.2.2)) fun a158 h158 => ?_; clear h157
         have hE161 := hT129.kept (hb_new (Below.refl _ _) hg140)
         refine d1 4 h158 rfl rfl (op_call (args := #[pt b4 0]) (R := fun res xw => res = .int .i64 (k112.length : Nat) ∧ w139 = xw) rfl rfl rfl (by kernel_rfl) (by kernel_rfl) (Try.call68 _ _) (elen_made w139 b4 v117 k112 n hE161.e) (by rintro q x ⟨rfl, rfl⟩; exact ⟨_, rfl, rfl, rfl⟩)) ?_ ?_; clear h158
         ·
          rintro _ _ ⟨rfl, rfl⟩
          exact ⟨hB146, hk147, hr148⟩
         rintro _ _ a159 ⟨rfl, rfl⟩ h159
         refine dk0 10 (v := .bool (((k112.length : Nat) : Int) != ((k112.length : Nat) : Int))) h159 rfl rfl ⟨hB146, hk147, hr148⟩ fun a162 h162 => ?_; clear h159
         refine dk0 11 (v := .bool (((k112.length : Nat) : Int) != ((k112.length : Nat) : Int))) h162 rfl rfl ⟨hB146, hk147, hr148⟩ fun a163 h163 => ?_; clear h162
         refine dk0 12 (v := .bool (((k112.length : Nat) : Int) != ((k112.length : Nat) : Int))) h163 rfl rfl ⟨hB146, hk147, hr148⟩ fun a164 h164 => ?_; clear h163
         have hc165 : (((k112.length : Nat) : Int) != ((k112.length : Nat) : Int)) = false := by first | (simp; done) | (simp; omega)
         rw [hc165] at h164; clear hc165
         refine dk0 13 (v := pt b4 0) h164 rfl rfl ⟨hB146, hk147, hr148⟩ fun a166 h166 => ?_; clear h164
         refine dk0 15 (v := pt N14 0) h166 rfl rfl ⟨hB146, hk147, hr148⟩ fun a167 h167 => ?_; clear h166
         refine dk0 16 (v := pt N14 0) h167 rfl rfl ⟨hB146, hk147, hr148⟩ fun a168 h168 => ?_; clear h167
         refine dk0 17 (v := pt N14 1) h168 rfl rfl ⟨hB146, hk147, hr148⟩ fun a169 h169 => ?_; clear h168
         refine dk 18 (v := .int .i64 n) h169 rfl rfl ⟨hB146, hk147, hr148⟩ (fun x hx => (rn_load1 rfl rfl Try.isAgg3 (hx.2.1.cell rfl))) fun a170 h170 => ?_; clear h169
         refine d1 14 h170 rfl rfl (op_call (args := #[pt b4 0]) (R := fun res xw => res = .int .i64 n ∧ w139 = xw) rfl rfl rfl (by kernel_rfl) (by kernel_rfl) (Try.call69 _ _) (elost_made w139 b4 v117 k112 n hE161.e) (by rintro q x ⟨rfl, rfl⟩; exact ⟨_, rfl, rfl, rfl⟩)) ?_ ?_; clear h170
         ·
          rintro _ _ ⟨rfl, rfl⟩
          exact ⟨hB146, hk147, hr148⟩
         rintro _ _ a171 ⟨rfl, rfl⟩ h171
         refine dk0 19 (v := .bool (n != n)) h171 rfl rfl ⟨hB146, hk147, hr148⟩ fun a173 h173 => ?_; clear h171
         refine dk0 20 (v := .bool (n != n)) h173 rfl rfl ⟨hB146, hk147, hr148⟩ fun a174 h174 => ?_; clear h173
         refine dk0 21 (v := .bool (n != n)) h174 rfl rfl ⟨hB146, hk147, hr148⟩ fun a175 h175 => ?_; clear h174
         have hc176 : (n != n) = false := by first | (simp; done) | (simp; omega)
         rw [hc176] at h175; clear hc176
         refine dk0 22 (v := pt b4 0) h175 rfl rfl ⟨hB146, hk147, hr148⟩ fun a177 h177 => ?_; clear h175
         refine dk0 24 (v := pt N14 0) h177 rfl rfl ⟨hB146, hk147, hr148⟩ fun a178 h178 => ?_; clear h177
         refine dk0 25 (v := pt N14 0) h178 rfl rfl ⟨hB146, hk147, hr148⟩ fun a179 h179 => ?_; clear h178
         refine dk0 26 (v := pt N14 0) h179 rfl rfl ⟨hB146, hk147, hr148⟩ fun a180 h180 => ?_; clear h179
         refine dk 27 (v := v128) h180 rfl rfl ⟨hB146, hk147, hr148⟩ (fun x hx => (rn_load1 rfl rfl Try.isAgg106 (hx.2.1.cell rfl))) fun a181 h181 => ?_; clear h180
         refine d1 23 h181 rfl rfl (op_call (args := #[pt b4 0]) (R := fun res xw => xw.ownsRow w139.heap.size 110 3 res k112.length (k112.flatMap pktE) ∧ Below w139.heap.size w139 xw) rfl rfl rfl (by kernel_rfl) (by kernel_rfl) (Try.call71 _ _) (eall_made w139 b4 v117 k112 n hE161.e (by omega)) (by rintro e x ⟨u, rfl, h0, h1⟩; exact ⟨_, rfl, h0, h1⟩)) ?_ ?_; clear h181
         ·
          rintro v184 w183 ⟨hr185, hb186⟩
          have hz187 := hb186.size
          have hB188 := hb_call hB146 hb186
          have hk189 := hk147.below hb186
          have hr190 := row_kept_new hr148 (below_grown hb186)
          exact ⟨hB188, hk189, hr190⟩
         rintro v184 w183 a182 ⟨hr185, hb186⟩ h182
         have hz187 := hb186.size
         have hB188 := hb_call hB146 hb186
         have hk189 := hk147.below hb186
         have hr190 := row_kept_new hr148 (below_grown hb186)
         refine d1 28 h182 rfl rfl (op_call (args := #[v184, v128]) (R := fun res xw => res = .bool true ∧ Below w183.heap.size w183 xw) rfl rfl rfl (by kernel_rfl) (by kernel_rfl) (Try.call70 _ _) (samep_any v184 v128 k112 w183 (row_sl hr185 pktE_len') (row_sl hr190 pktE_len')) (by rintro e x ⟨rfl, hb193⟩; exact ⟨_, rfl, ⟨rfl, hb193⟩⟩)) ?_ ?_; clear h182
         ·
          rintro _ w192 ⟨rfl, hb193⟩
          have hz194 := hb193.size
          have hB195 := hb_call hB188 hb193
          have hk196 := hk189.below hb193
          have hr197 := row_kept_new hr190 (below_grown hb193)
          exact ⟨hB195, hk196, hr197⟩
         rintro _ w192 a191 ⟨rfl, hb193⟩ h191
         have hz194 := hb193.size
         have hB195 := hb_call hB188 hb193
         have hk196 := hk189.below hb193
         have hr197 := row_kept_new hr190 (below_grown hb193)
         refine dk0 29 (v := .bool false) h191 rfl rfl ⟨hB195, hk196, hr197⟩ fun a198 h198 => ?_; clear h191
         refine dk0 30 (v := .bool false) h198 rfl rfl ⟨hB195, hk196, hr197⟩ fun a199 h199 => ?_; clear h198
         refine dr_done (by kernel_rfl) ?_
         refine co_then ?_
         refine co_false h199 rfl ?_
         refine wp_skip ?_
         refine co_blockN ?_
         refine co_then ?_
         refine co_reg ?_
         refine pk0 (v := .int .i64 ((i : Nat) : Int)) h199 rfl fun a200 h200 => ?_; clear h199
         refine pk (v := .int .i64 ((i + 1 : Nat) : Int)) h200 rfl (rn_arith' rfl rfl rfl rfl rfl rfl (IntWalk.i64_in _ (by omega)) (by omega)) fun a201 h201 => ?_; clear h200
         refine pk0 (v := .int .i64 ((i + 1 : Nat) : Int)) h201 rfl fun a202 h202 => ?_; clear h201
         refine pl_nil ?_
         refine co_then ?_
         refine ⟨(l.length - (i + 1)), by omega, ?_⟩
         have hE203 := hE161.kept hb186
         have hE204 := hE203.kept hb193
         exact ⟨i + 1, v117, k112, n, v128, h202.sub ⟨rfl, rfl, rfl, rfl, rfl, trivial⟩, rfl, by omega, by first | omega | (simp; done), by omega, hE204, hB195⟩
        ·
         rw [hc89] at h88
         have hp205 : y71.1 = 3 := by first | simpa using hc89 | simpa [and_assoc] using hc89
         clear hc89
         refine co_true h88 rfl ?_
         refine dr_gen (fun x => Below w.heap.size w x) (by kernel_rfl) (fun w206 hg207 => ?_) (fun w206 hg207 => ?_)
         ·
          have hz208 := hg207.size
          have hB209 := hb_new hB33 hg207
          exact hB209
         have hz210 := hg207.size
         have hB211 := hb_new hB33 hg207
         refine dk0 0 (v := pt b4 0) h88 rfl rfl hB211 fun a212 h212 => ?_; clear h88
         refine dk0 1 (v := v) h212 rfl rfl hB211 fun a213 h213 => ?_; clear h212
         refine dk0 2 (v := .int .i64 ((i : Nat) : Int)) h213 rfl rfl hB211 fun a214 h214 => ?_; clear h213
         refine dk 3 (v := pt (blkOf v) (offOf v + i * 5)) h214 rfl rfl hB211 (fun x hx => (rn_index rfl rfl rfl Try.underlying102 Try.sizeOf112 (hs.below hx) (by omega) (by first | omega | (simp; done) | (simp; omega)))) fun a215 h215 => ?_; clear h214
         refine dk0 4 (v := pt (blkOf v) (offOf v + i * 5 + 4)) h215 rfl rfl hB211 fun a216 h216 => ?_; clear h215
         refine dk 5 (v := .int .i64 y71.2.2) h216 rfl rfl hB211 (fun x hx => (rn_load1 rfl rfl Try.isAgg3 ((sl_at (hs.below hx) hy71) 4 _ rfl))) fun a217 h217 => ?_; clear h216
         refine dk0 7 (v := pt N14 0) h217 rfl rfl hB211 fun a218 h218 => ?_; clear h217
         refine dk0 8 (v := v) h218 rfl rfl hB211 fun a219 h219 => ?_; clear h218
         refine dk0 9 (v := .int .i64 ((i : Nat) : Int)) h219 rfl rfl hB211 fun a220 h220 => ?_; clear h219
         refine dk 10 (v := pt (blkOf v) (offOf v + i * 5)) h220 rfl rfl hB211 (fun x hx => (rn_index rfl rfl rfl Try.underlying102 Try.sizeOf112 (hs.below hx) (by omega) (by first | omega | (simp; done) | (simp; omega)))) fun a221 h221 => ?_; clear h220
         refine dk0 11 (v := pt (blkOf v) (offOf v + i * 5 + 4)) h221 rfl rfl hB211 fun a222 h222 => ?_; clear h221
         refine dk 12 (v := .int .i64 y71.2.2) h222 rfl rfl hB211 (fun x hx => (rn_load1 rfl rfl Try.isAgg3 ((sl_at (hs.below hx) hy71) 4 _ rfl))) fun a223 h223 => ?_; clear h222
         obtain ⟨r226, k227, n228, hq230⟩ : ∃ r226 k227 n228, dropR y71.2.2 k n = (r226, k227, n228) := ⟨_, _, _, rfl⟩
         have hbd231 := drop_bd hq230 (by omega) (by omega) (by omega)
         have hE235 := hf32.kept (hb_new (Below.refl _ _) hg207)
         refine d1 6 h223 rfl rfl (op_call (args := #[pt b4 0, .int .i64 y71.2.2]) (R := fun res xw => res = .int .i64 r226 ∧ ∃ v', Two w.heap.size w xw b4 v' k227 n228 N14 v2 k n ∧ w206.heap.size ≤ xw.heap.size) rfl rfl rfl (by kernel_rfl) (by kernel_rfl) (Try.call64 _ _) (two_edrop hE235 hq230 (by omega) oky71 (by omega) (by omega)) (by rintro e x ⟨rfl, v', h1, h2⟩; exact ⟨_, rfl, rfl, v', h1, h2⟩)) ?_ ?_; clear h223
         ·
          rintro _ w225 ⟨rfl, v232, hT233, hx234⟩
          have hB236 := hT233.bel
          have hv237 := hT233.own
          have hk238 : Blk w225 N14 108 #[v2, .int .i64 n] := hT233.r.blk
          have hl240 := hk238.lt
          have hr239 := hT233.r.row
          exact hB236
         rintro _ w225 a224 ⟨rfl, v232, hT233, hx234⟩ h224
         have hB236 := hT233.bel
         have hv237 := hT233.own
         have hk238 : Blk w225 N14 108 #[v2, .int .i64 n] := hT233.r.blk
         have hl240 := hk238.lt
         have hr239 := hT233.r.row
         refine d1 13 h224 rfl rfl (op_call (args := #[pt N14 0, .int .i64 y71.2.2]) (R := fun res xw => res = .int .i64 r226 ∧ ∃ v', Two w.heap.size w xw b4 v232 k227 n228 N14 v' k227 n228 ∧ But (fun i => i = N14) w225 xw) rfl rfl rfl (by kernel_rfl) (by kernel_rfl) (Try.call65 _ _) (two_rdrop hT233 hq230 (by omega) oky71 (by omega) (by omega)) (by rintro e x ⟨rfl, v', h1, h2⟩; exact ⟨_, rfl, rfl, v', h1, h2⟩)) ?_ ?_; clear h224
         ·
          rintro _ w242 ⟨rfl, v243, hT244, hx245⟩
          have hz246 := hx245.size
          have hB247 := hT244.bel
          have hv248 := hT244.own
          have hk249 : Blk w242 N14 108 #[v243, .int .i64 n228] := hT244.r.blk
          have hl251 := hk249.lt
          have hr250 := hT244.r.row
          exact hB247
         rintro _ w242 a241 ⟨rfl, v243, hT244, hx245⟩ h241
         have hz246 := hx245.size
         have hB247 := hT244.bel
         have hv248 := hT244.own
         have hk249 : Blk w242 N14 108 #[v243, .int .i64 n228] := hT244.r.blk
         have hl251 := hk249.lt
         have hr250 := hT244.r.row
         refine dk0 14 (v := .bool (r226 == r226)) h241 rfl rfl hB247 fun a252 h252 => ?_; clear h241
         refine dk0 15 (v := .bool (r226 == r226)) h252 rfl rfl hB247 fun a253 h253 => ?_; clear h252
         refine dr_done (by kernel_rfl) ?_
         refine co_blockN ?_
         refine co_then ?_
         refine co_seq ?_
         refine dr_gen (fun x => Below w.heap.size w x ∧ Blk x N14 108 #[v243, .int .i64 n228] ∧ x.ownsRow (N14 + 1) 110 3 v243 k227.length (k227.flatMap pktE)) (by kernel_rfl) (fun w254 hg255 => ?_) (fun w254 hg255 => ?_)
         ·
          have hz256 := hg255.size
          have hB257 := hb_new hB247 hg255
          have hk258 := hk249.kept hg255 (by simp)
          have hr259 := row_kept_new hr250 hg255
          exact ⟨hB257, hk258, hr259⟩
         have hz260 := hg255.size
         have hB261 := hb_new hB247 hg255
         have hk262 := hk249.kept hg255 (by simp)
         have hr263 := row_kept_new hr250 hg255
         refine dk0 0 (v := .bool (r226 == r226)) h253 rfl rfl ⟨hB261, hk262, hr263⟩ fun a264 h264 => ?_; clear h253
         have hc265 : (r226 == r226) = true := by first | (simp; done) | (simp; omega)
         rw [hc265] at h264; clear hc265
         refine dk0 1 (v := .bool false) h264 rfl rfl ⟨hB261, hk262, hr263⟩ fun a266 h266 => ?_; clear h264
         refine dk0 2 (v := .bool false) h266 rfl rfl ⟨hB261, hk262, hr263⟩ fun a267 h267 => ?_; clear h266
         refine dk0 3 (v := pt b4 0) h267 rfl rfl ⟨hB261, hk262, hr263⟩ fun a268 h268 => ?_; clear h267
         refine dk0 5 (v := pt N14 0) h268 rfl rfl ⟨hB261, hk262, hr263⟩ fun a269 h269 => ?_; clear h268
         refine dk0 6 (v := pt N14 0) h269 rfl rfl ⟨hB261, hk262, hr263⟩ fun a270 h270 => ?_; clear h269
         refine dk0 7 (v := pt N14 0) h270 rfl rfl ⟨hB261, hk262, hr263⟩ fun a271 h271 => ?_; clear h270
         refine dk 8 (v := v243) h271 rfl rfl ⟨hB261, hk262, hr263⟩ (fun x hx => (rn_load1 rfl rfl Try.isAgg106 (hx.2.1.cell rfl))) fun a272 h272 => ?_; clear h271
         refine dk 9 (v := .int .i64 ((k227.length : Nat) : Int)) h272 rfl rfl ⟨hB261, hk262, hr263⟩ (fun x hx => (rn_lenOwn rfl rfl Try.underlying106 hx.2.2)) fun a273 h273 => ?_; clear h272
         have hE276 := hT244.kept (hb_new (Below.refl _ _) hg255)
         refine d1 4 h273 rfl rfl (op_call (args := #[pt b4 0]) (R := fun res xw => res = .int .i64 (k227.length : Nat) ∧ w254 = xw) rfl rfl rfl (by kernel_rfl) (by kernel_rfl) (Try.call68 _ _) (elen_made w254 b4 v232 k227 n228 hE276.e) (by rintro q x ⟨rfl, rfl⟩; exact ⟨_, rfl, rfl, rfl⟩)) ?_ ?_; clear h273
         ·
          rintro _ _ ⟨rfl, rfl⟩
          exact ⟨hB261, hk262, hr263⟩
         rintro _ _ a274 ⟨rfl, rfl⟩ h274
         refine dk0 10 (v := .bool (((k227.length : Nat) : Int) != ((k227.length : Nat) : Int))) h274 rfl rfl ⟨hB261, hk262, hr263⟩ fun a277 h277 => ?_; clear h274
         refine dk0 11 (v := .bool (((k227.length : Nat) : Int) != ((k227.length : Nat) : Int))) h277 rfl rfl ⟨hB261, hk262, hr263⟩ fun a278 h278 => ?_; clear h277
         refine dk0 12 (v := .bool (((k227.length : Nat) : Int) != ((k227.length : Nat) : Int))) h278 rfl rfl ⟨hB261, hk262, hr263⟩ fun a279 h279 => ?_; clear h278
         have hc280 : (((k227.length : Nat) : Int) != ((k227.length : Nat) : Int)) = false := by first | (simp; done) | (simp; omega)
         rw [hc280] at h279; clear hc280
         refine dk0 13 (v := pt b4 0) h279 rfl rfl ⟨hB261, hk262, hr263⟩ fun a281 h281 => ?_; clear h279
         refine dk0 15 (v := pt N14 0) h281 rfl rfl ⟨hB261, hk262, hr263⟩ fun a282 h282 => ?_; clear h281
         refine dk0 16 (v := pt N14 0) h282 rfl rfl ⟨hB261, hk262, hr263⟩ fun a283 h283 => ?_; clear h282
         refine dk0 17 (v := pt N14 1) h283 rfl rfl ⟨hB261, hk262, hr263⟩ fun a284 h284 => ?_; clear h283
         refine dk 18 (v := .int .i64 n228) h284 rfl rfl ⟨hB261, hk262, hr263⟩ (fun x hx => (rn_load1 rfl rfl Try.isAgg3 (hx.2.1.cell rfl))) fun a285 h285 => ?_; clear h284
         refine d1 14 h285 rfl rfl (op_call (args := #[pt b4 0]) (R := fun res xw => res = .int .i64 n228 ∧ w254 = xw) rfl rfl rfl (by kernel_rfl) (by kernel_rfl) (Try.call69 _ _) (elost_made w254 b4 v232 k227 n228 hE276.e) (by rintro q x ⟨rfl, rfl⟩; exact ⟨_, rfl, rfl, rfl⟩)) ?_ ?_; clear h285
         ·
          rintro _ _ ⟨rfl, rfl⟩
          exact ⟨hB261, hk262, hr263⟩
         rintro _ _ a286 ⟨rfl, rfl⟩ h286
         refine dk0 19 (v := .bool (n228 != n228)) h286 rfl rfl ⟨hB261, hk262, hr263⟩ fun a288 h288 => ?_; clear h286
         refine dk0 20 (v := .bool (n228 != n228)) h288 rfl rfl ⟨hB261, hk262, hr263⟩ fun a289 h289 => ?_; clear h288
         refine dk0 21 (v := .bool (n228 != n228)) h289 rfl rfl ⟨hB261, hk262, hr263⟩ fun a290 h290 => ?_; clear h289
         have hc291 : (n228 != n228) = false := by first | (simp; done) | (simp; omega)
         rw [hc291] at h290; clear hc291
         refine dk0 22 (v := pt b4 0) h290 rfl rfl ⟨hB261, hk262, hr263⟩ fun a292 h292 => ?_; clear h290
         refine dk0 24 (v := pt N14 0) h292 rfl rfl ⟨hB261, hk262, hr263⟩ fun a293 h293 => ?_; clear h292
         refine dk0 25 (v := pt N14 0) h293 rfl rfl ⟨hB261, hk262, hr263⟩ fun a294 h294 => ?_; clear h293
         refine dk0 26 (v := pt N14 0) h294 rfl rfl ⟨hB261, hk262, hr263⟩ fun a295 h295 => ?_; clear h294
         refine dk 27 (v := v243) h295 rfl rfl ⟨hB261, hk262, hr263⟩ (fun x hx => (rn_load1 rfl rfl Try.isAgg106 (hx.2.1.cell rfl))) fun a296 h296 => ?_; clear h295
         refine d1 23 h296 rfl rfl (op_call (args := #[pt b4 0]) (R := fun res xw => xw.ownsRow w254.heap.size 110 3 res k227.length (k227.flatMap pktE) ∧ Below w254.heap.size w254 xw) rfl rfl rfl (by kernel_rfl) (by kernel_rfl) (Try.call71 _ _) (eall_made w254 b4 v232 k227 n228 hE276.e (by omega)) (by rintro e x ⟨u, rfl, h0, h1⟩; exact ⟨_, rfl, h0, h1⟩)) ?_ ?_; clear h296
         ·
          rintro v299 w298 ⟨hr300, hb301⟩
          have hz302 := hb301.size
          have hB303 := hb_call hB261 hb301
          have hk304 := hk262.below hb301
          have hr305 := row_kept_new hr263 (below_grown hb301)
          exact ⟨hB303, hk304, hr305⟩
         rintro v299 w298 a297 ⟨hr300, hb301⟩ h297
         have hz302 := hb301.size
         have hB303 := hb_call hB261 hb301
         have hk304 := hk262.below hb301
         have hr305 := row_kept_new hr263 (below_grown hb301)
         refine d1 28 h297 rfl rfl (op_call (args := #[v299, v243]) (R := fun res xw => res = .bool true ∧ Below w298.heap.size w298 xw) rfl rfl rfl (by kernel_rfl) (by kernel_rfl) (Try.call70 _ _) (samep_any v299 v243 k227 w298 (row_sl hr300 pktE_len') (row_sl hr305 pktE_len')) (by rintro e x ⟨rfl, hb308⟩; exact ⟨_, rfl, ⟨rfl, hb308⟩⟩)) ?_ ?_; clear h297
         ·
          rintro _ w307 ⟨rfl, hb308⟩
          have hz309 := hb308.size
          have hB310 := hb_call hB303 hb308
          have hk311 := hk304.below hb308
          have hr312 := row_kept_new hr305 (below_grown hb308)
          exact ⟨hB310, hk311, hr312⟩
         rintro _ w307 a306 ⟨rfl, hb308⟩ h306
         have hz309 := hb308.size
         have hB310 := hb_call hB303 hb308
         have hk311 := hk304.below hb308
         have hr312 := row_kept_new hr305 (below_grown hb308)
         refine dk0 29 (v := .bool false) h306 rfl rfl ⟨hB310, hk311, hr312⟩ fun a313 h313 => ?_; clear h306
         refine dk0 30 (v := .bool false) h313 rfl rfl ⟨hB310, hk311, hr312⟩ fun a314 h314 => ?_; clear h313
         refine dr_done (by kernel_rfl) ?_
         refine co_then ?_
         refine co_false h314 rfl ?_
         refine wp_skip ?_
         refine co_blockN ?_
         refine co_then ?_
         refine co_reg ?_
         refine pk0 (v := .int .i64 ((i : Nat) : Int)) h314 rfl fun a315 h315 => ?_; clear h314
         refine pk (v := .int .i64 ((i + 1 : Nat) : Int)) h315 rfl (rn_arith' rfl rfl rfl rfl rfl rfl (IntWalk.i64_in _ (by omega)) (by omega)) fun a316 h316 => ?_; clear h315
         refine pk0 (v := .int .i64 ((i + 1 : Nat) : Int)) h316 rfl fun a317 h317 => ?_; clear h316
         refine pl_nil ?_
         refine co_then ?_
         refine ⟨(l.length - (i + 1)), by omega, ?_⟩
         have hE318 := hE276.kept hb301
         have hE319 := hE318.kept hb308
         exact ⟨i + 1, v232, k227, n228, v243, h317.sub ⟨rfl, rfl, rfl, rfl, rfl, trivial⟩, rfl, by omega, by first | omega | (simp; done), by omega, hE319, hB310⟩
       ·
        rw [hc85] at h84
        have hp320 : y71.1 = 2 := by first | simpa using hc85 | simpa [and_assoc] using hc85
        clear hc85
        refine co_true h84 rfl ?_
        refine co_seq ?_
        refine co_reg ?_
        refine pk0 (v := pt b4 0) h84 rfl fun a321 h321 => ?_; clear h84
        refine pk0 (v := v) h321 rfl fun a322 h322 => ?_; clear h321
        refine pk0 (v := .int .i64 ((i : Nat) : Int)) h322 rfl fun a323 h323 => ?_; clear h322
        refine pk (v := pt (blkOf v) (offOf v + i * 5)) h323 rfl (rn_index rfl rfl rfl Try.underlying102 Try.sizeOf112 (hs.below hB33) (by omega) (by first | omega | (simp; done) | (simp; omega))) fun a324 h324 => ?_; clear h323
        refine pk0 (v := pt (blkOf v) (offOf v + i * 5 + 4)) h324 rfl fun a325 h325 => ?_; clear h324
        refine pk (v := .int .i64 y71.2.2) h325 rfl (rn_load1 rfl rfl Try.isAgg3 ((sl_at (hs.below hB33) hy71) 4 _ rfl)) fun a326 h326 => ?_; clear h325
        obtain ⟨p332, r329, k330, hq333⟩ : ∃ p332 r329 k330, takeR y71.2.2 k = (p332, r329, k330) := ⟨_, _, _, rfl⟩
        have hbd334 := take_bd hq333 (by omega)
        refine pw h326 rfl (op_call (args := #[pt b4 0, .int .i64 y71.2.2]) (R := fun res xw => res = .tuple #[.agg #[.int .i64 p332.1, .int .i64 p332.2.1, .string p332.2.2], .int .i64 r329] ∧ ∃ v', Two w.heap.size w xw b4 v' k330 n N14 v2 k n ∧ w28.heap.size ≤ xw.heap.size) rfl rfl rfl (by kernel_rfl) (by kernel_rfl) (Try.call62 _ _) (two_etake hf32 hq333 (by omega) oky71) (by rintro e x ⟨rfl, v', h1, h2⟩; exact ⟨_, rfl, rfl, v', h1, h2⟩)) ?_; clear h326
        rintro _ w328 a327 ⟨rfl, v335, hT336, hx337⟩ h327
        have hB338 := hT336.bel
        have hv339 := hT336.own
        have hk340 : Blk w328 N14 108 #[v2, .int .i64 n] := hT336.r.blk
        have hl342 := hk340.lt
        have hr341 := hT336.r.row
        refine pk0 (v := .tuple #[.agg #[.int .i64 p332.1, .int .i64 p332.2.1, .string p332.2.2], .int .i64 r329]) h327 rfl fun a343 h343 => ?_; clear h327
        refine pk0 (v := .agg #[.int .i64 p332.1, .int .i64 p332.2.1, .string p332.2.2]) h343 rfl fun a344 h344 => ?_; clear h343
        refine pk0 (v := .int .i64 r329) h344 rfl fun a345 h345 => ?_; clear h344
        refine pw h345 rfl (op_new (v := fun N => pt N 0) (T := 110) (cs := #[.int .i64 0, .int .i64 0, .string (⟨#[]⟩)]) (by kernel_rfl) (by kernel_rfl) (by kernel_rfl)) ?_; clear h345
        rintro _ w347 a346 ⟨N348, rfl, hN351, hz352, hk350, hg349⟩ h346
        have ha353 := row_fresh hr341 hN351
        have hz354 := hg349.size
        try dsimp only at h346
        refine pwD h346 rfl (op_storeN rfl rfl rfl (by kernel_rfl) (by kernel_rfl) hk350 rfl) ?_; clear h346
        rintro _ w356 a355 ⟨hk357, hz358, hg359⟩ h355
        have hk357' : Blk w356 N348 110 #[.int .i64 p332.1, .int .i64 p332.2.1, .string p332.2.2] := hk357; clear hk357
        have hz360 := hg359.size
        refine pk0 (v := .int .i64 r329) h355 rfl fun a361 h361 => ?_; clear h355
        refine pl_nil ?_
        refine co_then ?_
        refine co_seq ?_
        refine co_reg ?_
        refine pk0 (v := pt N14 0) h361 rfl fun a362 h362 => ?_; clear h361
        refine pk0 (v := v) h362 rfl fun a363 h363 => ?_; clear h362
        refine pk0 (v := .int .i64 ((i : Nat) : Int)) h363 rfl fun a364 h364 => ?_; clear h363
        have hB365 := hb_new hB338 hg349
        have hB366 := hb_at hB365 hg359 (by omega)
        refine pk (v := pt (blkOf v) (offOf v + i * 5)) h364 rfl (rn_index rfl rfl rfl Try.underlying102 Try.sizeOf112 (hs.below hB366) (by omega) (by first | omega | (simp; done) | (simp; omega))) fun a367 h367 => ?_; clear h364
        refine pk0 (v := pt (blkOf v) (offOf v + i * 5 + 4)) h367 rfl fun a368 h368 => ?_; clear h367
        refine pk (v := .int .i64 y71.2.2) h368 rfl (rn_load1 rfl rfl Try.isAgg3 ((sl_at (hs.below hB366) hy71) 4 _ rfl)) fun a369 h369 => ?_; clear h368
        have hE375 := hT336.kept (hb_new (Below.refl _ _) hg349)
        have hT376 := hE375.at' hg359 (by omega) (fun e => by have := hv339.1 _ e; omega) (fun e => by have := hv339.2.1 _ e; omega) (by omega) (by omega)
        refine pw h369 rfl (op_call (args := #[pt N14 0, .int .i64 y71.2.2]) (R := fun res xw => res = .tuple #[.agg #[.int .i64 p332.1, .int .i64 p332.2.1, .string p332.2.2], .int .i64 r329] ∧ ∃ v', Two w.heap.size w xw b4 v335 k330 n N14 v' k330 n ∧ But (fun i => i = N14) w356 xw) rfl rfl rfl (by kernel_rfl) (by kernel_rfl) (Try.call63 _ _) (two_rtake hT376 hq333 (by omega) oky71) (by rintro e x ⟨rfl, v', h1, h2⟩; exact ⟨_, rfl, rfl, v', h1, h2⟩)) ?_; clear h369
        rintro _ w371 a370 ⟨rfl, v372, hT373, hx374⟩ h370
        have hz377 := hx374.size
        have hB378 := hT373.bel
        have hv379 := hT373.own
        have hk380 : Blk w371 N14 108 #[v372, .int .i64 n] := hT373.r.blk
        have hl382 := hk380.lt
        have hr381 := hT373.r.row
        refine pk0 (v := .tuple #[.agg #[.int .i64 p332.1, .int .i64 p332.2.1, .string p332.2.2], .int .i64 r329]) h370 rfl fun a383 h383 => ?_; clear h370
        refine pk0 (v := .agg #[.int .i64 p332.1, .int .i64 p332.2.1, .string p332.2.2]) h383 rfl fun a384 h384 => ?_; clear h383
        refine pk0 (v := .int .i64 r329) h384 rfl fun a385 h385 => ?_; clear h384
        refine pw h385 rfl (op_new (v := fun N => pt N 0) (T := 110) (cs := #[.int .i64 0, .int .i64 0, .string (⟨#[]⟩)]) (by kernel_rfl) (by kernel_rfl) (by kernel_rfl)) ?_; clear h385
        rintro _ w387 a386 ⟨N388, rfl, hN391, hz392, hk390, hg389⟩ h386
        have ha393 := row_fresh hr381 hN391
        have hz394 := hg389.size
        try dsimp only at h386
        refine pwD h386 rfl (op_storeN rfl rfl rfl (by kernel_rfl) (by kernel_rfl) hk390 rfl) ?_; clear h386
        rintro _ w396 a395 ⟨hk397, hz398, hg399⟩ h395
        have hk397' : Blk w396 N388 110 #[.int .i64 p332.1, .int .i64 p332.2.1, .string p332.2.2] := hk397; clear hk397
        have hz400 := hg399.size
        refine pk0 (v := .int .i64 r329) h395 rfl fun a401 h401 => ?_; clear h395
        refine pl_nil ?_
        refine co_then ?_
        refine co_reg ?_
        have hk402 := blkBut hk357' hx374 (by first | omega | (simp; omega))
        have hk403 := hk402.kept hg389 (by simp)
        have hk404 := hk403.kept hg399 (by simp; omega)
        refine pk (v := .agg #[.int .i64 p332.1, .int .i64 p332.2.1, .string p332.2.2]) h401 rfl (rn_loadN rfl rfl Try.underlying110 rfl (by kernel_rfl) hk404.all) fun a405 h405 => ?_; clear h401
        refine pk (v := .agg #[.int .i64 p332.1, .int .i64 p332.2.1, .string p332.2.2]) h405 rfl (rn_loadN rfl rfl Try.underlying110 rfl (by kernel_rfl) hk397'.all) fun a406 h406 => ?_; clear h405
        refine pk (v := .bool (decide ((p332 : PktT) = p332))) h406 rfl (rn_eqS rfl rfl rfl Try.eqGuardType110 (eq_pkt p332 p332 _)) fun a407 h407 => ?_; clear h406
        refine pk0 (v := .bool (decide ((p332 : PktT) = p332))) h407 rfl fun a408 h408 => ?_; clear h407
        have hc409 : (decide ((p332 : PktT) = p332)) = true := by simp
        rw [hc409] at h408; clear hc409
        refine pk0 (v := .int .i64 r329) h408 rfl fun a410 h410 => ?_; clear h408
        refine pk0 (v := .int .i64 r329) h410 rfl fun a411 h411 => ?_; clear h410
        refine pk0 (v := .bool (r329 == r329)) h411 rfl fun a412 h412 => ?_; clear h411
        refine pk0 (v := .bool (r329 == r329)) h412 rfl fun a413 h413 => ?_; clear h412
        refine pk0 (v := .bool (r329 == r329)) h413 rfl fun a414 h414 => ?_; clear h413
        refine pl_nil ?_
        refine co_blockN ?_
        refine co_then ?_
        refine co_seq ?_
        refine dr_gen (fun x => Below w.heap.size w x ∧ Blk x N14 108 #[v372, .int .i64 n] ∧ x.ownsRow (N14 + 1) 110 3 v372 k330.length (k330.flatMap pktE)) (by kernel_rfl) (fun w415 hg416 => ?_) (fun w415 hg416 => ?_)
        ·
         have hz417 := hg416.size
         have hB418 := hb_new hB378 hg389
         have hB419 := hb_at hB418 hg399 (by omega)
         have hB420 := hb_new hB419 hg416
         have hk421 := hk380.kept hg389 (by simp)
         have hk422 := hk421.kept hg399 (by simp; omega)
         have hk423 := hk422.kept hg416 (by simp)
         have hr424 := row_kept_new hr381 hg389
         have hr425 := row_kept_at hr424 hg399 (ha393)
         have hr426 := row_kept_new hr425 hg416
         exact ⟨hB420, hk423, hr426⟩
        have hz427 := hg416.size
        have hB428 := hb_new hB378 hg389
        have hB429 := hb_at hB428 hg399 (by omega)
        have hB430 := hb_new hB429 hg416
        have hk431 := hk380.kept hg389 (by simp)
        have hk432 := hk431.kept hg399 (by simp; omega)
        have hk433 := hk432.kept hg416 (by simp)
        have hr434 := row_kept_new hr381 hg389
        have hr435 := row_kept_at hr434 hg399 (ha393)
        have hr436 := row_kept_new hr435 hg416
        refine dk0 0 (v := .bool (r329 == r329)) h414 rfl rfl ⟨hB430, hk433, hr436⟩ fun a437 h437 => ?_; clear h414
        have hc438 : (r329 == r329) = true := by first | (simp; done) | (simp; omega)
        rw [hc438] at h437; clear hc438
        refine dk0 1 (v := .bool false) h437 rfl rfl ⟨hB430, hk433, hr436⟩ fun a439 h439 => ?_; clear h437
        refine dk0 2 (v := .bool false) h439 rfl rfl ⟨hB430, hk433, hr436⟩ fun a440 h440 => ?_; clear h439
        refine dk0 3 (v := pt b4 0) h440 rfl rfl ⟨hB430, hk433, hr436⟩ fun a441 h441 => ?_; clear h440
        refine dk0 5 (v := pt N14 0) h441 rfl rfl ⟨hB430, hk433, hr436⟩ fun a442 h442 => ?_; clear h441
        refine dk0 6 (v := pt N14 0) h442 rfl rfl ⟨hB430, hk433, hr436⟩ fun a443 h443 => ?_; clear h442
        refine dk0 7 (v := pt N14 0) h443 rfl rfl ⟨hB430, hk433, hr436⟩ fun a444 h444 => ?_; clear h443
        refine dk 8 (v := v372) h444 rfl rfl ⟨hB430, hk433, hr436⟩ (fun x hx => (rn_load1 rfl rfl Try.isAgg106 (hx.2.1.cell rfl))) fun a445 h445 => ?_; clear h444
        refine dk 9 (v := .int .i64 ((k330.length : Nat) : Int)) h445 rfl rfl ⟨hB430, hk433, hr436⟩ (fun x hx => (rn_lenOwn rfl rfl Try.underlying106 hx.2.2)) fun a446 h446 => ?_; clear h445
        have hE449 := hT373.kept (hb_new (Below.refl _ _) hg389)
        have hT450 := hE449.at' hg399 (by omega) (fun e => by have := hv379.1 _ e; omega) (fun e => by have := hv379.2.1 _ e; omega) (by omega) (by omega)
        have hE451 := hT450.kept (hb_new (Below.refl _ _) hg416)
        refine d1 4 h446 rfl rfl (op_call (args := #[pt b4 0]) (R := fun res xw => res = .int .i64 (k330.length : Nat) ∧ w415 = xw) rfl rfl rfl (by kernel_rfl) (by kernel_rfl) (Try.call68 _ _) (elen_made w415 b4 v335 k330 n hE451.e) (by rintro q x ⟨rfl, rfl⟩; exact ⟨_, rfl, rfl, rfl⟩)) ?_ ?_; clear h446
        ·
         rintro _ _ ⟨rfl, rfl⟩
         exact ⟨hB430, hk433, hr436⟩
        rintro _ _ a447 ⟨rfl, rfl⟩ h447
        refine dk0 10 (v := .bool (((k330.length : Nat) : Int) != ((k330.length : Nat) : Int))) h447 rfl rfl ⟨hB430, hk433, hr436⟩ fun a452 h452 => ?_; clear h447
        refine dk0 11 (v := .bool (((k330.length : Nat) : Int) != ((k330.length : Nat) : Int))) h452 rfl rfl ⟨hB430, hk433, hr436⟩ fun a453 h453 => ?_; clear h452
        refine dk0 12 (v := .bool (((k330.length : Nat) : Int) != ((k330.length : Nat) : Int))) h453 rfl rfl ⟨hB430, hk433, hr436⟩ fun a454 h454 => ?_; clear h453
        have hc455 : (((k330.length : Nat) : Int) != ((k330.length : Nat) : Int)) = false := by first | (simp; done) | (simp; omega)
        rw [hc455] at h454; clear hc455
        refine dk0 13 (v := pt b4 0) h454 rfl rfl ⟨hB430, hk433, hr436⟩ fun a456 h456 => ?_; clear h454
        refine dk0 15 (v := pt N14 0) h456 rfl rfl ⟨hB430, hk433, hr436⟩ fun a457 h457 => ?_; clear h456
        refine dk0 16 (v := pt N14 0) h457 rfl rfl ⟨hB430, hk433, hr436⟩ fun a458 h458 => ?_; clear h457
        refine dk0 17 (v := pt N14 1) h458 rfl rfl ⟨hB430, hk433, hr436⟩ fun a459 h459 => ?_; clear h458
        refine dk 18 (v := .int .i64 n) h459 rfl rfl ⟨hB430, hk433, hr436⟩ (fun x hx => (rn_load1 rfl rfl Try.isAgg3 (hx.2.1.cell rfl))) fun a460 h460 => ?_; clear h459
        refine d1 14 h460 rfl rfl (op_call (args := #[pt b4 0]) (R := fun res xw => res = .int .i64 n ∧ w415 = xw) rfl rfl rfl (by kernel_rfl) (by kernel_rfl) (Try.call69 _ _) (elost_made w415 b4 v335 k330 n hE451.e) (by rintro q x ⟨rfl, rfl⟩; exact ⟨_, rfl, rfl, rfl⟩)) ?_ ?_; clear h460
        ·
         rintro _ _ ⟨rfl, rfl⟩
         exact ⟨hB430, hk433, hr436⟩
        rintro _ _ a461 ⟨rfl, rfl⟩ h461
        refine dk0 19 (v := .bool (n != n)) h461 rfl rfl ⟨hB430, hk433, hr436⟩ fun a463 h463 => ?_; clear h461
        refine dk0 20 (v := .bool (n != n)) h463 rfl rfl ⟨hB430, hk433, hr436⟩ fun a464 h464 => ?_; clear h463
        refine dk0 21 (v := .bool (n != n)) h464 rfl rfl ⟨hB430, hk433, hr436⟩ fun a465 h465 => ?_; clear h464
        have hc466 : (n != n) = false := by first | (simp; done) | (simp; omega)
        rw [hc466] at h465; clear hc466
        refine dk0 22 (v := pt b4 0) h465 rfl rfl ⟨hB430, hk433, hr436⟩ fun a467 h467 => ?_; clear h465
        refine dk0 24 (v := pt N14 0) h467 rfl rfl ⟨hB430, hk433, hr436⟩ fun a468 h468 => ?_; clear h467
        refine dk0 25 (v := pt N14 0) h468 rfl rfl ⟨hB430, hk433, hr436⟩ fun a469 h469 => ?_; clear h468
        refine dk0 26 (v := pt N14 0) h469 rfl rfl ⟨hB430, hk433, hr436⟩ fun a470 h470 => ?_; clear h469
        refine dk 27 (v := v372) h470 rfl rfl ⟨hB430, hk433, hr436⟩ (fun x hx => (rn_load1 rfl rfl Try.isAgg106 (hx.2.1.cell rfl))) fun a471 h471 => ?_; clear h470
        refine d1 23 h471 rfl rfl (op_call (args := #[pt b4 0]) (R := fun res xw => xw.ownsRow w415.heap.size 110 3 res k330.length (k330.flatMap pktE) ∧ Below w415.heap.size w415 xw) rfl rfl rfl (by kernel_rfl) (by kernel_rfl) (Try.call71 _ _) (eall_made w415 b4 v335 k330 n hE451.e (by omega)) (by rintro e x ⟨u, rfl, h0, h1⟩; exact ⟨_, rfl, h0, h1⟩)) ?_ ?_; clear h471
        ·
         rintro v474 w473 ⟨hr475, hb476⟩
         have hz477 := hb476.size
         have hB478 := hb_call hB430 hb476
         have hk479 := hk433.below hb476
         have hr480 := row_kept_new hr436 (below_grown hb476)
         exact ⟨hB478, hk479, hr480⟩
        rintro v474 w473 a472 ⟨hr475, hb476⟩ h472
        have hz477 := hb476.size
        have hB478 := hb_call hB430 hb476
        have hk479 := hk433.below hb476
        have hr480 := row_kept_new hr436 (below_grown hb476)
        refine d1 28 h472 rfl rfl (op_call (args := #[v474, v372]) (R := fun res xw => res = .bool true ∧ Below w473.heap.size w473 xw) rfl rfl rfl (by kernel_rfl) (by kernel_rfl) (Try.call70 _ _) (samep_any v474 v372 k330 w473 (row_sl hr475 pktE_len') (row_sl hr480 pktE_len')) (by rintro e x ⟨rfl, hb483⟩; exact ⟨_, rfl, ⟨rfl, hb483⟩⟩)) ?_ ?_; clear h472
        ·
         rintro _ w482 ⟨rfl, hb483⟩
         have hz484 := hb483.size
         have hB485 := hb_call hB478 hb483
         have hk486 := hk479.below hb483
         have hr487 := row_kept_new hr480 (below_grown hb483)
         exact ⟨hB485, hk486, hr487⟩
        rintro _ w482 a481 ⟨rfl, hb483⟩ h481
        have hz484 := hb483.size
        have hB485 := hb_call hB478 hb483
        have hk486 := hk479.below hb483
        have hr487 := row_kept_new hr480 (below_grown hb483)
        refine dk0 29 (v := .bool false) h481 rfl rfl ⟨hB485, hk486, hr487⟩ fun a488 h488 => ?_; clear h481
        refine dk0 30 (v := .bool false) h488 rfl rfl ⟨hB485, hk486, hr487⟩ fun a489 h489 => ?_; clear h488
        refine dr_done (by kernel_rfl) ?_
        refine co_then ?_
        refine co_false h489 rfl ?_
        refine wp_skip ?_
        refine co_blockN ?_
        refine co_then ?_
        refine co_reg ?_
        refine pk0 (v := .int .i64 ((i : Nat) : Int)) h489 rfl fun a490 h490 => ?_; clear h489
        refine pk (v := .int .i64 ((i + 1 : Nat) : Int)) h490 rfl (rn_arith' rfl rfl rfl rfl rfl rfl (IntWalk.i64_in _ (by omega)) (by omega)) fun a491 h491 => ?_; clear h490
        refine pk0 (v := .int .i64 ((i + 1 : Nat) : Int)) h491 rfl fun a492 h492 => ?_; clear h491
        refine pl_nil ?_
        refine co_then ?_
        refine ⟨(l.length - (i + 1)), by omega, ?_⟩
        have hE493 := hE451.kept hb476
        have hE494 := hE493.kept hb483
        exact ⟨i + 1, v335, k330, n, v372, h492.sub ⟨rfl, rfl, rfl, rfl, rfl, trivial⟩, rfl, by omega, by first | omega | (simp; done), by omega, hE494, hB485⟩
      ·
       rw [hc81] at h80
       have hp495 : y71.1 = 1 := by first | simpa using hc81 | simpa [and_assoc] using hc81
       clear hc81
       refine co_true h80 rfl ?_
       refine dr_gen (fun x => Below w.heap.size w x) (by kernel_rfl) (fun w496 hg497 => ?_) (fun w496 hg497 => ?_)
       ·
        have hz498 := hg497.size
        have hB499 := hb_new hB33 hg497
        exact hB499
       have hz500 := hg497.size
       have hB501 := hb_new hB33 hg497
       refine dk0 0 (v := pt b4 0) h80 rfl rfl hB501 fun a502 h502 => ?_; clear h80
       refine dk0 1 (v := v) h502 rfl rfl hB501 fun a503 h503 => ?_; clear h502
       refine dk0 2 (v := .int .i64 ((i : Nat) : Int)) h503 rfl rfl hB501 fun a504 h504 => ?_; clear h503
       refine dk 3 (v := pt (blkOf v) (offOf v + i * 5)) h504 rfl rfl hB501 (fun x hx => (rn_index rfl rfl rfl Try.underlying102 Try.sizeOf112 (hs.below hx) (by omega) (by first | omega | (simp; done) | (simp; omega)))) fun a505 h505 => ?_; clear h504
       refine dk0 4 (v := pt (blkOf v) (offOf v + i * 5 + 1)) h505 rfl rfl hB501 fun a506 h506 => ?_; clear h505
       refine dk 5 (v := .agg #[.int .i64 y71.2.1.1, .int .i64 y71.2.1.2.1, .string y71.2.1.2.2]) h506 rfl rfl hB501 (fun x hx => (rn_loadN rfl rfl Try.underlying110 rfl (by kernel_rfl) (range_part (sl_at (hs.below hx) hy71) 1 _ (by rfl)))) fun a507 h507 => ?_; clear h506
       refine dk0 7 (v := pt N14 0) h507 rfl rfl hB501 fun a508 h508 => ?_; clear h507
       refine dk0 8 (v := v) h508 rfl rfl hB501 fun a509 h509 => ?_; clear h508
       refine dk0 9 (v := .int .i64 ((i : Nat) : Int)) h509 rfl rfl hB501 fun a510 h510 => ?_; clear h509
       refine dk 10 (v := pt (blkOf v) (offOf v + i * 5)) h510 rfl rfl hB501 (fun x hx => (rn_index rfl rfl rfl Try.underlying102 Try.sizeOf112 (hs.below hx) (by omega) (by first | omega | (simp; done) | (simp; omega)))) fun a511 h511 => ?_; clear h510
       refine dk0 11 (v := pt (blkOf v) (offOf v + i * 5 + 1)) h511 rfl rfl hB501 fun a512 h512 => ?_; clear h511
       refine dk 12 (v := .agg #[.int .i64 y71.2.1.1, .int .i64 y71.2.1.2.1, .string y71.2.1.2.2]) h512 rfl rfl hB501 (fun x hx => (rn_loadN rfl rfl Try.underlying110 rfl (by kernel_rfl) (range_part (sl_at (hs.below hx) hy71) 1 _ (by rfl)))) fun a513 h513 => ?_; clear h512
       obtain ⟨r516, k517, n518, hq520⟩ : ∃ r516 k517 n518, sendR y71.2.1 k n = (r516, k517, n518) := ⟨_, _, _, rfl⟩
       have hbd521 := send_bd' hq520 (by omega) (by omega) (by omega)
       have hE525 := hf32.kept (hb_new (Below.refl _ _) hg497)
       refine d1 6 h513 rfl rfl (op_call (args := #[pt b4 0, .agg #[.int .i64 y71.2.1.1, .int .i64 y71.2.1.2.1, .string y71.2.1.2.2]]) (R := fun res xw => res = .int .i64 r516 ∧ ∃ v', Two w.heap.size w xw b4 v' k517 n518 N14 v2 k n ∧ w496.heap.size ≤ xw.heap.size) rfl rfl rfl (by kernel_rfl) (by kernel_rfl) (Try.call60 _ _) (two_esend hE525 hq520 (by omega) (by omega) (by omega)) (by rintro e x ⟨rfl, v', h1, h2⟩; exact ⟨_, rfl, rfl, v', h1, h2⟩)) ?_ ?_; clear h513
       ·
        rintro _ w515 ⟨rfl, v522, hT523, hx524⟩
        have hB526 := hT523.bel
        have hv527 := hT523.own
        have hk528 : Blk w515 N14 108 #[v2, .int .i64 n] := hT523.r.blk
        have hl530 := hk528.lt
        have hr529 := hT523.r.row
        exact hB526
       rintro _ w515 a514 ⟨rfl, v522, hT523, hx524⟩ h514
       have hB526 := hT523.bel
       have hv527 := hT523.own
       have hk528 : Blk w515 N14 108 #[v2, .int .i64 n] := hT523.r.blk
       have hl530 := hk528.lt
       have hr529 := hT523.r.row
       refine d1 13 h514 rfl rfl (op_call (args := #[pt N14 0, .agg #[.int .i64 y71.2.1.1, .int .i64 y71.2.1.2.1, .string y71.2.1.2.2]]) (R := fun res xw => res = .int .i64 r516 ∧ ∃ v', Two w.heap.size w xw b4 v522 k517 n518 N14 v' k517 n518 ∧ But (fun i => i = N14) w515 xw) rfl rfl rfl (by kernel_rfl) (by kernel_rfl) (Try.call61 _ _) (two_rsend hT523 hq520 (by omega) (by omega) (by omega)) (by rintro e x ⟨rfl, v', h1, h2⟩; exact ⟨_, rfl, rfl, v', h1, h2⟩)) ?_ ?_; clear h514
       ·
        rintro _ w532 ⟨rfl, v533, hT534, hx535⟩
        have hz536 := hx535.size
        have hB537 := hT534.bel
        have hv538 := hT534.own
        have hk539 : Blk w532 N14 108 #[v533, .int .i64 n518] := hT534.r.blk
        have hl541 := hk539.lt
        have hr540 := hT534.r.row
        exact hB537
       rintro _ w532 a531 ⟨rfl, v533, hT534, hx535⟩ h531
       have hz536 := hx535.size
       have hB537 := hT534.bel
       have hv538 := hT534.own
       have hk539 : Blk w532 N14 108 #[v533, .int .i64 n518] := hT534.r.blk
       have hl541 := hk539.lt
       have hr540 := hT534.r.row
       refine dk0 14 (v := .bool (r516 == r516)) h531 rfl rfl hB537 fun a542 h542 => ?_; clear h531
       refine dk0 15 (v := .bool (r516 == r516)) h542 rfl rfl hB537 fun a543 h543 => ?_; clear h542
       refine dr_done (by kernel_rfl) ?_
       refine co_blockN ?_
       refine co_then ?_
       refine co_seq ?_
       refine dr_gen (fun x => Below w.heap.size w x ∧ Blk x N14 108 #[v533, .int .i64 n518] ∧ x.ownsRow (N14 + 1) 110 3 v533 k517.length (k517.flatMap pktE)) (by kernel_rfl) (fun w544 hg545 => ?_) (fun w544 hg545 => ?_)
       ·
        have hz546 := hg545.size
        have hB547 := hb_new hB537 hg545
        have hk548 := hk539.kept hg545 (by simp)
        have hr549 := row_kept_new hr540 hg545
        exact ⟨hB547, hk548, hr549⟩
       have hz550 := hg545.size
       have hB551 := hb_new hB537 hg545
       have hk552 := hk539.kept hg545 (by simp)
       have hr553 := row_kept_new hr540 hg545
       refine dk0 0 (v := .bool (r516 == r516)) h543 rfl rfl ⟨hB551, hk552, hr553⟩ fun a554 h554 => ?_; clear h543
       have hc555 : (r516 == r516) = true := by first | (simp; done) | (simp; omega)
       rw [hc555] at h554; clear hc555
       refine dk0 1 (v := .bool false) h554 rfl rfl ⟨hB551, hk552, hr553⟩ fun a556 h556 => ?_; clear h554
       refine dk0 2 (v := .bool false) h556 rfl rfl ⟨hB551, hk552, hr553⟩ fun a557 h557 => ?_; clear h556
       refine dk0 3 (v := pt b4 0) h557 rfl rfl ⟨hB551, hk552, hr553⟩ fun a558 h558 => ?_; clear h557
       refine dk0 5 (v := pt N14 0) h558 rfl rfl ⟨hB551, hk552, hr553⟩ fun a559 h559 => ?_; clear h558
       refine dk0 6 (v := pt N14 0) h559 rfl rfl ⟨hB551, hk552, hr553⟩ fun a560 h560 => ?_; clear h559
       refine dk0 7 (v := pt N14 0) h560 rfl rfl ⟨hB551, hk552, hr553⟩ fun a561 h561 => ?_; clear h560
       refine dk 8 (v := v533) h561 rfl rfl ⟨hB551, hk552, hr553⟩ (fun x hx => (rn_load1 rfl rfl Try.isAgg106 (hx.2.1.cell rfl))) fun a562 h562 => ?_; clear h561
       refine dk 9 (v := .int .i64 ((k517.length : Nat) : Int)) h562 rfl rfl ⟨hB551, hk552, hr553⟩ (fun x hx => (rn_lenOwn rfl rfl Try.underlying106 hx.2.2)) fun a563 h563 => ?_; clear h562
       have hE566 := hT534.kept (hb_new (Below.refl _ _) hg545)
       refine d1 4 h563 rfl rfl (op_call (args := #[pt b4 0]) (R := fun res xw => res = .int .i64 (k517.length : Nat) ∧ w544 = xw) rfl rfl rfl (by kernel_rfl) (by kernel_rfl) (Try.call68 _ _) (elen_made w544 b4 v522 k517 n518 hE566.e) (by rintro q x ⟨rfl, rfl⟩; exact ⟨_, rfl, rfl, rfl⟩)) ?_ ?_; clear h563
       ·
        rintro _ _ ⟨rfl, rfl⟩
        exact ⟨hB551, hk552, hr553⟩
       rintro _ _ a564 ⟨rfl, rfl⟩ h564
       refine dk0 10 (v := .bool (((k517.length : Nat) : Int) != ((k517.length : Nat) : Int))) h564 rfl rfl ⟨hB551, hk552, hr553⟩ fun a567 h567 => ?_; clear h564
       refine dk0 11 (v := .bool (((k517.length : Nat) : Int) != ((k517.length : Nat) : Int))) h567 rfl rfl ⟨hB551, hk552, hr553⟩ fun a568 h568 => ?_; clear h567
       refine dk0 12 (v := .bool (((k517.length : Nat) : Int) != ((k517.length : Nat) : Int))) h568 rfl rfl ⟨hB551, hk552, hr553⟩ fun a569 h569 => ?_; clear h568
       have hc570 : (((k517.length : Nat) : Int) != ((k517.length : Nat) : Int)) = false := by first | (simp; done) | (simp; omega)
       rw [hc570] at h569; clear hc570
       refine dk0 13 (v := pt b4 0) h569 rfl rfl ⟨hB551, hk552, hr553⟩ fun a571 h571 => ?_; clear h569
       refine dk0 15 (v := pt N14 0) h571 rfl rfl ⟨hB551, hk552, hr553⟩ fun a572 h572 => ?_; clear h571
       refine dk0 16 (v := pt N14 0) h572 rfl rfl ⟨hB551, hk552, hr553⟩ fun a573 h573 => ?_; clear h572
       refine dk0 17 (v := pt N14 1) h573 rfl rfl ⟨hB551, hk552, hr553⟩ fun a574 h574 => ?_; clear h573
       refine dk 18 (v := .int .i64 n518) h574 rfl rfl ⟨hB551, hk552, hr553⟩ (fun x hx => (rn_load1 rfl rfl Try.isAgg3 (hx.2.1.cell rfl))) fun a575 h575 => ?_; clear h574
       refine d1 14 h575 rfl rfl (op_call (args := #[pt b4 0]) (R := fun res xw => res = .int .i64 n518 ∧ w544 = xw) rfl rfl rfl (by kernel_rfl) (by kernel_rfl) (Try.call69 _ _) (elost_made w544 b4 v522 k517 n518 hE566.e) (by rintro q x ⟨rfl, rfl⟩; exact ⟨_, rfl, rfl, rfl⟩)) ?_ ?_; clear h575
       ·
        rintro _ _ ⟨rfl, rfl⟩
        exact ⟨hB551, hk552, hr553⟩
       rintro _ _ a576 ⟨rfl, rfl⟩ h576
       refine dk0 19 (v := .bool (n518 != n518)) h576 rfl rfl ⟨hB551, hk552, hr553⟩ fun a578 h578 => ?_; clear h576
       refine dk0 20 (v := .bool (n518 != n518)) h578 rfl rfl ⟨hB551, hk552, hr553⟩ fun a579 h579 => ?_; clear h578
       refine dk0 21 (v := .bool (n518 != n518)) h579 rfl rfl ⟨hB551, hk552, hr553⟩ fun a580 h580 => ?_; clear h579
       have hc581 : (n518 != n518) = false := by first | (simp; done) | (simp; omega)
       rw [hc581] at h580; clear hc581
       refine dk0 22 (v := pt b4 0) h580 rfl rfl ⟨hB551, hk552, hr553⟩ fun a582 h582 => ?_; clear h580
       refine dk0 24 (v := pt N14 0) h582 rfl rfl ⟨hB551, hk552, hr553⟩ fun a583 h583 => ?_; clear h582
       refine dk0 25 (v := pt N14 0) h583 rfl rfl ⟨hB551, hk552, hr553⟩ fun a584 h584 => ?_; clear h583
       refine dk0 26 (v := pt N14 0) h584 rfl rfl ⟨hB551, hk552, hr553⟩ fun a585 h585 => ?_; clear h584
       refine dk 27 (v := v533) h585 rfl rfl ⟨hB551, hk552, hr553⟩ (fun x hx => (rn_load1 rfl rfl Try.isAgg106 (hx.2.1.cell rfl))) fun a586 h586 => ?_; clear h585
       refine d1 23 h586 rfl rfl (op_call (args := #[pt b4 0]) (R := fun res xw => xw.ownsRow w544.heap.size 110 3 res k517.length (k517.flatMap pktE) ∧ Below w544.heap.size w544 xw) rfl rfl rfl (by kernel_rfl) (by kernel_rfl) (Try.call71 _ _) (eall_made w544 b4 v522 k517 n518 hE566.e (by omega)) (by rintro e x ⟨u, rfl, h0, h1⟩; exact ⟨_, rfl, h0, h1⟩)) ?_ ?_; clear h586
       ·
        rintro v589 w588 ⟨hr590, hb591⟩
        have hz592 := hb591.size
        have hB593 := hb_call hB551 hb591
        have hk594 := hk552.below hb591
        have hr595 := row_kept_new hr553 (below_grown hb591)
        exact ⟨hB593, hk594, hr595⟩
       rintro v589 w588 a587 ⟨hr590, hb591⟩ h587
       have hz592 := hb591.size
       have hB593 := hb_call hB551 hb591
       have hk594 := hk552.below hb591
       have hr595 := row_kept_new hr553 (below_grown hb591)
       refine d1 28 h587 rfl rfl (op_call (args := #[v589, v533]) (R := fun res xw => res = .bool true ∧ Below w588.heap.size w588 xw) rfl rfl rfl (by kernel_rfl) (by kernel_rfl) (Try.call70 _ _) (samep_any v589 v533 k517 w588 (row_sl hr590 pktE_len') (row_sl hr595 pktE_len')) (by rintro e x ⟨rfl, hb598⟩; exact ⟨_, rfl, ⟨rfl, hb598⟩⟩)) ?_ ?_; clear h587
       ·
        rintro _ w597 ⟨rfl, hb598⟩
        have hz599 := hb598.size
        have hB600 := hb_call hB593 hb598
        have hk601 := hk594.below hb598
        have hr602 := row_kept_new hr595 (below_grown hb598)
        exact ⟨hB600, hk601, hr602⟩
       rintro _ w597 a596 ⟨rfl, hb598⟩ h596
       have hz599 := hb598.size
       have hB600 := hb_call hB593 hb598
       have hk601 := hk594.below hb598
       have hr602 := row_kept_new hr595 (below_grown hb598)
       refine dk0 29 (v := .bool false) h596 rfl rfl ⟨hB600, hk601, hr602⟩ fun a603 h603 => ?_; clear h596
       refine dk0 30 (v := .bool false) h603 rfl rfl ⟨hB600, hk601, hr602⟩ fun a604 h604 => ?_; clear h603
       refine dr_done (by kernel_rfl) ?_
       refine co_then ?_
       refine co_false h604 rfl ?_
       refine wp_skip ?_
       refine co_blockN ?_
       refine co_then ?_
       refine co_reg ?_
       refine pk0 (v := .int .i64 ((i : Nat) : Int)) h604 rfl fun a605 h605 => ?_; clear h604
       refine pk (v := .int .i64 ((i + 1 : Nat) : Int)) h605 rfl (rn_arith' rfl rfl rfl rfl rfl rfl (IntWalk.i64_in _ (by omega)) (by omega)) fun a606 h606 => ?_; clear h605
       refine pk0 (v := .int .i64 ((i + 1 : Nat) : Int)) h606 rfl fun a607 h607 => ?_; clear h606
       refine pl_nil ?_
       refine co_then ?_
       refine ⟨(l.length - (i + 1)), by omega, ?_⟩
       have hE608 := hE566.kept hb591
       have hE609 := hE608.kept hb598
       exact ⟨i + 1, v522, k517, n518, v533, h607.sub ⟨rfl, rfl, rfl, rfl, rfl, trivial⟩, rfl, by omega, by first | omega | (simp; done), by omega, hE609, hB600⟩
     ·
      rw [hc77] at h76
      have hp610 : y71.1 = 0 := by first | simpa using hc77 | simpa [and_assoc] using hc77
      clear hc77
      refine co_true h76 rfl ?_
      refine wp_skip ?_
      refine co_then ?_
      refine co_true h76 rfl ?_
      refine dr_gen (fun x => Below w.heap.size w x) (by kernel_rfl) (fun w611 hg612 => ?_) (fun w611 hg612 => ?_)
      ·
       have hz613 := hg612.size
       have hB614 := hb_new hB33 hg612
       exact hB614
      have hz615 := hg612.size
      have hB616 := hb_new hB33 hg612
      refine dk0 0 (v := pt b4 0) h76 rfl rfl hB616 fun a617 h617 => ?_; clear h76
      refine dk0 1 (v := v) h617 rfl rfl hB616 fun a618 h618 => ?_; clear h617
      refine dk0 2 (v := .int .i64 ((i : Nat) : Int)) h618 rfl rfl hB616 fun a619 h619 => ?_; clear h618
      refine dk 3 (v := pt (blkOf v) (offOf v + i * 5)) h619 rfl rfl hB616 (fun x hx => (rn_index rfl rfl rfl Try.underlying102 Try.sizeOf112 (hs.below hx) (by omega) (by first | omega | (simp; done) | (simp; omega)))) fun a620 h620 => ?_; clear h619
      refine dk0 4 (v := pt (blkOf v) (offOf v + i * 5 + 1)) h620 rfl rfl hB616 fun a621 h621 => ?_; clear h620
      refine dk 5 (v := .agg #[.int .i64 y71.2.1.1, .int .i64 y71.2.1.2.1, .string y71.2.1.2.2]) h621 rfl rfl hB616 (fun x hx => (rn_loadN rfl rfl Try.underlying110 rfl (by kernel_rfl) (range_part (sl_at (hs.below hx) hy71) 1 _ (by rfl)))) fun a622 h622 => ?_; clear h621
      refine dk0 7 (v := pt N14 0) h622 rfl rfl hB616 fun a623 h623 => ?_; clear h622
      refine dk0 8 (v := v) h623 rfl rfl hB616 fun a624 h624 => ?_; clear h623
      refine dk0 9 (v := .int .i64 ((i : Nat) : Int)) h624 rfl rfl hB616 fun a625 h625 => ?_; clear h624
      refine dk 10 (v := pt (blkOf v) (offOf v + i * 5)) h625 rfl rfl hB616 (fun x hx => (rn_index rfl rfl rfl Try.underlying102 Try.sizeOf112 (hs.below hx) (by omega) (by first | omega | (simp; done) | (simp; omega)))) fun a626 h626 => ?_; clear h625
      refine dk0 11 (v := pt (blkOf v) (offOf v + i * 5 + 1)) h626 rfl rfl hB616 fun a627 h627 => ?_; clear h626
      refine dk 12 (v := .agg #[.int .i64 y71.2.1.1, .int .i64 y71.2.1.2.1, .string y71.2.1.2.2]) h627 rfl rfl hB616 (fun x hx => (rn_loadN rfl rfl Try.underlying110 rfl (by kernel_rfl) (range_part (sl_at (hs.below hx) hy71) 1 _ (by rfl)))) fun a628 h628 => ?_; clear h627
      obtain ⟨r631, k632, n633, hq635⟩ : ∃ r631 k632 n633, sendR y71.2.1 k n = (r631, k632, n633) := ⟨_, _, _, rfl⟩
      have hbd636 := send_bd' hq635 (by omega) (by omega) (by omega)
      have hE640 := hf32.kept (hb_new (Below.refl _ _) hg612)
      refine d1 6 h628 rfl rfl (op_call (args := #[pt b4 0, .agg #[.int .i64 y71.2.1.1, .int .i64 y71.2.1.2.1, .string y71.2.1.2.2]]) (R := fun res xw => res = .int .i64 r631 ∧ ∃ v', Two w.heap.size w xw b4 v' k632 n633 N14 v2 k n ∧ w611.heap.size ≤ xw.heap.size) rfl rfl rfl (by kernel_rfl) (by kernel_rfl) (Try.call60 _ _) (two_esend hE640 hq635 (by omega) (by omega) (by omega)) (by rintro e x ⟨rfl, v', h1, h2⟩; exact ⟨_, rfl, rfl, v', h1, h2⟩)) ?_ ?_; clear h628
      ·
       rintro _ w630 ⟨rfl, v637, hT638, hx639⟩
       have hB641 := hT638.bel
       have hv642 := hT638.own
       have hk643 : Blk w630 N14 108 #[v2, .int .i64 n] := hT638.r.blk
       have hl645 := hk643.lt
       have hr644 := hT638.r.row
       exact hB641
      rintro _ w630 a629 ⟨rfl, v637, hT638, hx639⟩ h629
      have hB641 := hT638.bel
      have hv642 := hT638.own
      have hk643 : Blk w630 N14 108 #[v2, .int .i64 n] := hT638.r.blk
      have hl645 := hk643.lt
      have hr644 := hT638.r.row
      refine d1 13 h629 rfl rfl (op_call (args := #[pt N14 0, .agg #[.int .i64 y71.2.1.1, .int .i64 y71.2.1.2.1, .string y71.2.1.2.2]]) (R := fun res xw => res = .int .i64 r631 ∧ ∃ v', Two w.heap.size w xw b4 v637 k632 n633 N14 v' k632 n633 ∧ But (fun i => i = N14) w630 xw) rfl rfl rfl (by kernel_rfl) (by kernel_rfl) (Try.call61 _ _) (two_rsend hT638 hq635 (by omega) (by omega) (by omega)) (by rintro e x ⟨rfl, v', h1, h2⟩; exact ⟨_, rfl, rfl, v', h1, h2⟩)) ?_ ?_; clear h629
      ·
       rintro _ w647 ⟨rfl, v648, hT649, hx650⟩
       have hz651 := hx650.size
       have hB652 := hT649.bel
       have hv653 := hT649.own
       have hk654 : Blk w647 N14 108 #[v648, .int .i64 n633] := hT649.r.blk
       have hl656 := hk654.lt
       have hr655 := hT649.r.row
       exact hB652
      rintro _ w647 a646 ⟨rfl, v648, hT649, hx650⟩ h646
      have hz651 := hx650.size
      have hB652 := hT649.bel
      have hv653 := hT649.own
      have hk654 : Blk w647 N14 108 #[v648, .int .i64 n633] := hT649.r.blk
      have hl656 := hk654.lt
      have hr655 := hT649.r.row
      refine dk0 14 (v := .bool (r631 == r631)) h646 rfl rfl hB652 fun a657 h657 => ?_; clear h646
      refine dk0 15 (v := .bool (r631 == r631)) h657 rfl rfl hB652 fun a658 h658 => ?_; clear h657
      refine dr_done (by kernel_rfl) ?_
      refine co_blockN ?_
      refine co_then ?_
      refine co_seq ?_
      refine dr_gen (fun x => Below w.heap.size w x ∧ Blk x N14 108 #[v648, .int .i64 n633] ∧ x.ownsRow (N14 + 1) 110 3 v648 k632.length (k632.flatMap pktE)) (by kernel_rfl) (fun w659 hg660 => ?_) (fun w659 hg660 => ?_)
      ·
       have hz661 := hg660.size
       have hB662 := hb_new hB652 hg660
       have hk663 := hk654.kept hg660 (by simp)
       have hr664 := row_kept_new hr655 hg660
       exact ⟨hB662, hk663, hr664⟩
      have hz665 := hg660.size
      have hB666 := hb_new hB652 hg660
      have hk667 := hk654.kept hg660 (by simp)
      have hr668 := row_kept_new hr655 hg660
      refine dk0 0 (v := .bool (r631 == r631)) h658 rfl rfl ⟨hB666, hk667, hr668⟩ fun a669 h669 => ?_; clear h658
      have hc670 : (r631 == r631) = true := by first | (simp; done) | (simp; omega)
      rw [hc670] at h669; clear hc670
      refine dk0 1 (v := .bool false) h669 rfl rfl ⟨hB666, hk667, hr668⟩ fun a671 h671 => ?_; clear h669
      refine dk0 2 (v := .bool false) h671 rfl rfl ⟨hB666, hk667, hr668⟩ fun a672 h672 => ?_; clear h671
      refine dk0 3 (v := pt b4 0) h672 rfl rfl ⟨hB666, hk667, hr668⟩ fun a673 h673 => ?_; clear h672
      refine dk0 5 (v := pt N14 0) h673 rfl rfl ⟨hB666, hk667, hr668⟩ fun a674 h674 => ?_; clear h673
      refine dk0 6 (v := pt N14 0) h674 rfl rfl ⟨hB666, hk667, hr668⟩ fun a675 h675 => ?_; clear h674
      refine dk0 7 (v := pt N14 0) h675 rfl rfl ⟨hB666, hk667, hr668⟩ fun a676 h676 => ?_; clear h675
      refine dk 8 (v := v648) h676 rfl rfl ⟨hB666, hk667, hr668⟩ (fun x hx => (rn_load1 rfl rfl Try.isAgg106 (hx.2.1.cell rfl))) fun a677 h677 => ?_; clear h676
      refine dk 9 (v := .int .i64 ((k632.length : Nat) : Int)) h677 rfl rfl ⟨hB666, hk667, hr668⟩ (fun x hx => (rn_lenOwn rfl rfl Try.underlying106 hx.2.2)) fun a678 h678 => ?_; clear h677
      have hE681 := hT649.kept (hb_new (Below.refl _ _) hg660)
      refine d1 4 h678 rfl rfl (op_call (args := #[pt b4 0]) (R := fun res xw => res = .int .i64 (k632.length : Nat) ∧ w659 = xw) rfl rfl rfl (by kernel_rfl) (by kernel_rfl) (Try.call68 _ _) (elen_made w659 b4 v637 k632 n633 hE681.e) (by rintro q x ⟨rfl, rfl⟩; exact ⟨_, rfl, rfl, rfl⟩)) ?_ ?_; clear h678
      ·
       rintro _ _ ⟨rfl, rfl⟩
       exact ⟨hB666, hk667, hr668⟩
      rintro _ _ a679 ⟨rfl, rfl⟩ h679
      refine dk0 10 (v := .bool (((k632.length : Nat) : Int) != ((k632.length : Nat) : Int))) h679 rfl rfl ⟨hB666, hk667, hr668⟩ fun a682 h682 => ?_; clear h679
      refine dk0 11 (v := .bool (((k632.length : Nat) : Int) != ((k632.length : Nat) : Int))) h682 rfl rfl ⟨hB666, hk667, hr668⟩ fun a683 h683 => ?_; clear h682
      refine dk0 12 (v := .bool (((k632.length : Nat) : Int) != ((k632.length : Nat) : Int))) h683 rfl rfl ⟨hB666, hk667, hr668⟩ fun a684 h684 => ?_; clear h683
      have hc685 : (((k632.length : Nat) : Int) != ((k632.length : Nat) : Int)) = false := by first | (simp; done) | (simp; omega)
      rw [hc685] at h684; clear hc685
      refine dk0 13 (v := pt b4 0) h684 rfl rfl ⟨hB666, hk667, hr668⟩ fun a686 h686 => ?_; clear h684
      refine dk0 15 (v := pt N14 0) h686 rfl rfl ⟨hB666, hk667, hr668⟩ fun a687 h687 => ?_; clear h686
      refine dk0 16 (v := pt N14 0) h687 rfl rfl ⟨hB666, hk667, hr668⟩ fun a688 h688 => ?_; clear h687
      refine dk0 17 (v := pt N14 1) h688 rfl rfl ⟨hB666, hk667, hr668⟩ fun a689 h689 => ?_; clear h688
      refine dk 18 (v := .int .i64 n633) h689 rfl rfl ⟨hB666, hk667, hr668⟩ (fun x hx => (rn_load1 rfl rfl Try.isAgg3 (hx.2.1.cell rfl))) fun a690 h690 => ?_; clear h689
      refine d1 14 h690 rfl rfl (op_call (args := #[pt b4 0]) (R := fun res xw => res = .int .i64 n633 ∧ w659 = xw) rfl rfl rfl (by kernel_rfl) (by kernel_rfl) (Try.call69 _ _) (elost_made w659 b4 v637 k632 n633 hE681.e) (by rintro q x ⟨rfl, rfl⟩; exact ⟨_, rfl, rfl, rfl⟩)) ?_ ?_; clear h690
      ·
       rintro _ _ ⟨rfl, rfl⟩
       exact ⟨hB666, hk667, hr668⟩
      rintro _ _ a691 ⟨rfl, rfl⟩ h691
      refine dk0 19 (v := .bool (n633 != n633)) h691 rfl rfl ⟨hB666, hk667, hr668⟩ fun a693 h693 => ?_; clear h691
      refine dk0 20 (v := .bool (n633 != n633)) h693 rfl rfl ⟨hB666, hk667, hr668⟩ fun a694 h694 => ?_; clear h693
      refine dk0 21 (v := .bool (n633 != n633)) h694 rfl rfl ⟨hB666, hk667, hr668⟩ fun a695 h695 => ?_; clear h694
      have hc696 : (n633 != n633) = false := by first | (simp; done) | (simp; omega)
      rw [hc696] at h695; clear hc696
      refine dk0 22 (v := pt b4 0) h695 rfl rfl ⟨hB666, hk667, hr668⟩ fun a697 h697 => ?_; clear h695
      refine dk0 24 (v := pt N14 0) h697 rfl rfl ⟨hB666, hk667, hr668⟩ fun a698 h698 => ?_; clear h697
      refine dk0 25 (v := pt N14 0) h698 rfl rfl ⟨hB666, hk667, hr668⟩ fun a699 h699 => ?_; clear h698
      refine dk0 26 (v := pt N14 0) h699 rfl rfl ⟨hB666, hk667, hr668⟩ fun a700 h700 => ?_; clear h699
      refine dk 27 (v := v648) h700 rfl rfl ⟨hB666, hk667, hr668⟩ (fun x hx => (rn_load1 rfl rfl Try.isAgg106 (hx.2.1.cell rfl))) fun a701 h701 => ?_; clear h700
      refine d1 23 h701 rfl rfl (op_call (args := #[pt b4 0]) (R := fun res xw => xw.ownsRow w659.heap.size 110 3 res k632.length (k632.flatMap pktE) ∧ Below w659.heap.size w659 xw) rfl rfl rfl (by kernel_rfl) (by kernel_rfl) (Try.call71 _ _) (eall_made w659 b4 v637 k632 n633 hE681.e (by omega)) (by rintro e x ⟨u, rfl, h0, h1⟩; exact ⟨_, rfl, h0, h1⟩)) ?_ ?_; clear h701
      ·
       rintro v704 w703 ⟨hr705, hb706⟩
       have hz707 := hb706.size
       have hB708 := hb_call hB666 hb706
       have hk709 := hk667.below hb706
       have hr710 := row_kept_new hr668 (below_grown hb706)
       exact ⟨hB708, hk709, hr710⟩
      rintro v704 w703 a702 ⟨hr705, hb706⟩ h702
      have hz707 := hb706.size
      have hB708 := hb_call hB666 hb706
      have hk709 := hk667.below hb706
      have hr710 := row_kept_new hr668 (below_grown hb706)
      refine d1 28 h702 rfl rfl (op_call (args := #[v704, v648]) (R := fun res xw => res = .bool true ∧ Below w703.heap.size w703 xw) rfl rfl rfl (by kernel_rfl) (by kernel_rfl) (Try.call70 _ _) (samep_any v704 v648 k632 w703 (row_sl hr705 pktE_len') (row_sl hr710 pktE_len')) (by rintro e x ⟨rfl, hb713⟩; exact ⟨_, rfl, ⟨rfl, hb713⟩⟩)) ?_ ?_; clear h702
      ·
       rintro _ w712 ⟨rfl, hb713⟩
       have hz714 := hb713.size
       have hB715 := hb_call hB708 hb713
       have hk716 := hk709.below hb713
       have hr717 := row_kept_new hr710 (below_grown hb713)
       exact ⟨hB715, hk716, hr717⟩
      rintro _ w712 a711 ⟨rfl, hb713⟩ h711
      have hz714 := hb713.size
      have hB715 := hb_call hB708 hb713
      have hk716 := hk709.below hb713
      have hr717 := row_kept_new hr710 (below_grown hb713)
      refine dk0 29 (v := .bool false) h711 rfl rfl ⟨hB715, hk716, hr717⟩ fun a718 h718 => ?_; clear h711
      refine dk0 30 (v := .bool false) h718 rfl rfl ⟨hB715, hk716, hr717⟩ fun a719 h719 => ?_; clear h718
      refine dr_done (by kernel_rfl) ?_
      refine co_then ?_
      refine co_false h719 rfl ?_
      refine wp_skip ?_
      refine co_blockN ?_
      refine co_then ?_
      refine co_reg ?_
      refine pk0 (v := .int .i64 ((i : Nat) : Int)) h719 rfl fun a720 h720 => ?_; clear h719
      refine pk (v := .int .i64 ((i + 1 : Nat) : Int)) h720 rfl (rn_arith' rfl rfl rfl rfl rfl rfl (IntWalk.i64_in _ (by omega)) (by omega)) fun a721 h721 => ?_; clear h720
      refine pk0 (v := .int .i64 ((i + 1 : Nat) : Int)) h721 rfl fun a722 h722 => ?_; clear h721
      refine pl_nil ?_
      refine co_then ?_
      refine ⟨(l.length - (i + 1)), by omega, ?_⟩
      have hE723 := hE681.kept hb706
      have hE724 := hE723.kept hb713
      exact ⟨i + 1, v637, k632, n633, v648, h722.sub ⟨rfl, rfl, rfl, rfl, rfl, trivial⟩, rfl, by omega, by first | omega | (simp; done), by omega, hE724, hB715⟩
end Go.Proofs.Ytjfnpedlegplnaa
