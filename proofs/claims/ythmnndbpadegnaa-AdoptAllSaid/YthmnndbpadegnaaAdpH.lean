/- catenalaw18: AdoptAll. Conditions: none. -/
import Derived.Test.YthmnndbpadegnaaAdpG
namespace Go.Proofs.Ythmnndbpadegnaa
open Go.RowKit Go.PlainAid
set_option linter.unusedVariables false
set_option linter.unusedSimpArgs false

set_option maxRecDepth 100000 in
set_option maxHeartbeats 6400000 in
theorem adoptAll_law (v : Value) (l : List EntT) (v2 : Value) (l2 : List EntT) (p : Value) (pl : List Int) (w : World) (hs : SliceOf entE 4 w v l) (hok : ∀ z ∈ l, EntOkS w z) (hs2 : SliceOf entE 4 w v2 l2) (hok2 : ∀ z ∈ l2, EntOkS w z) (hlA : l.length ≤ 2932031007403) (hlB : l2.length ≤ 2932031007403) (hp : SliceOf (intE .u8) 1 w p pl) (hokp : ∀ z ∈ pl, (fun z : Int => 0 ≤ z ∧ z ≤ 255) z) :
    Calls Try.prog 9 #[v, v2, p] w fun e w' => e = .returned (.bool true) ∧ Below w.heap.size w w' := by
 have hB0 := Below.refl w.heap.size w
 have hl_hs := sl_len hs
 have hl_hs2 := sl_len hs2
 have hl_hp := sl_len hp
 refine co_enter (n := 142) Try.func9 rfl rfl rfl [(0, v), (1, v2), (2, p)] rfl (fun a h0 => ?_)
 refine co_seq ?_
 refine co_reg ?_
 refine pk0 (v := .bool false) h0 rfl fun a1 h1 => ?_; clear h0
 refine pl_nil ?_
 refine co_then ?_
 refine co_seq ?_
 refine co_seq ?_
 refine co_reg ?_
 refine pk0 (v := v) h1 rfl fun a2 h2 => ?_; clear h1
 refine pw h2 rfl (op_call (args := #[v]) (R := fun res xw => res = .int .i64 (muchN l) ∧ Below w.heap.size w xw) rfl rfl rfl (by kernel_rfl) (by kernel_rfl) (Try.call41 _ _) (much_any v l w (hs.below hB0) (fun z hz => ⟨(hok z hz).1.below hB0, (hok z hz).2⟩) hlA) (by rintro e x ⟨rfl, h⟩; exact ⟨_, rfl, rfl, h⟩)) ?_; clear h2
 rintro _ w4 a3 ⟨rfl, hb5⟩ h3
 have hz6 := hb5.size
 refine pk0 (v := .bool (decide (muchN l > 60))) h3 rfl fun a7 h7 => ?_; clear h3
 refine pk0 (v := .bool (decide (muchN l > 60))) h7 rfl fun a8 h8 => ?_; clear h7
 have hB10 := hb_call hB0 hb5
 cases hc9 : (decide (muchN l > 60))
 ·
  rw [hc9] at h8
  have hp11 : ¬ (muchN l > 60) := of_decide_eq_false hc9
  clear hc9
  refine pk0 (v := v2) h8 rfl fun a12 h12 => ?_; clear h8
  refine pw h12 rfl (op_call (args := #[v2]) (R := fun res xw => res = .int .i64 (muchN l2) ∧ Below w4.heap.size w4 xw) rfl rfl rfl (by kernel_rfl) (by kernel_rfl) (Try.call41 _ _) (much_any v2 l2 w4 (hs2.below hB10) (fun z hz => ⟨(hok2 z hz).1.below hB10, (hok2 z hz).2⟩) hlB) (by rintro e x ⟨rfl, h⟩; exact ⟨_, rfl, rfl, h⟩)) ?_; clear h12
  rintro _ w14 a13 ⟨rfl, hb15⟩ h13
  have hz16 := hb15.size
  refine pk0 (v := .bool (decide (muchN l2 > 60))) h13 rfl fun a17 h17 => ?_; clear h13
  refine pk0 (v := .bool (decide (muchN l2 > 60))) h17 rfl fun a18 h18 => ?_; clear h17
  refine pk0 (v := .bool (decide (muchN l2 > 60))) h18 rfl fun a19 h19 => ?_; clear h18
  have hB21 := hb_call hB10 hb15
  cases hc20 : (decide (muchN l2 > 60))
  ·
   rw [hc20] at h19
   have hp22 : ¬ (muchN l2 > 60) := of_decide_eq_false hc20
   clear hc20
   refine pk0 (v := v) h19 rfl fun a23 h23 => ?_; clear h19
   refine pw h23 rfl (op_call (args := #[v]) (R := fun res xw => res = .int .i64 (rightI l) ∧ Below w14.heap.size w14 xw) rfl rfl rfl (by kernel_rfl) (by kernel_rfl) (Try.call34 _ _) (ritemRight_any v l w14 (hs.below hB21) (fun z hz => (hok z hz).1.below hB21)) (by rintro e x ⟨rfl, h⟩; exact ⟨_, rfl, rfl, h⟩)) ?_; clear h23
   rintro _ w25 a24 ⟨rfl, hb26⟩ h24
   have hz27 := hb26.size
   refine pk0 (v := .bool (rightI l != 0)) h24 rfl fun a28 h28 => ?_; clear h24
   refine pk0 (v := .bool (rightI l != 0)) h28 rfl fun a29 h29 => ?_; clear h28
   refine pk0 (v := .bool (rightI l != 0)) h29 rfl fun a30 h30 => ?_; clear h29
   have hB32 := hb_call hB21 hb26
   cases hc31 : (rightI l != 0)
   ·
    rw [hc31] at h30
    have hp33 : ¬ (rightI l ≠ 0) := by first | simpa using hc31 | simpa [and_assoc] using hc31
    clear hc31
    refine pk0 (v := v2) h30 rfl fun a34 h34 => ?_; clear h30
    refine pw h34 rfl (op_call (args := #[v2]) (R := fun res xw => res = .int .i64 (rightI l2) ∧ Below w25.heap.size w25 xw) rfl rfl rfl (by kernel_rfl) (by kernel_rfl) (Try.call34 _ _) (ritemRight_any v2 l2 w25 (hs2.below hB32) (fun z hz => (hok2 z hz).1.below hB32)) (by rintro e x ⟨rfl, h⟩; exact ⟨_, rfl, rfl, h⟩)) ?_; clear h34
    rintro _ w36 a35 ⟨rfl, hb37⟩ h35
    have hz38 := hb37.size
    refine pk0 (v := .bool (rightI l2 != 0)) h35 rfl fun a39 h39 => ?_; clear h35
    refine pk0 (v := .bool (rightI l2 != 0)) h39 rfl fun a40 h40 => ?_; clear h39
    refine pl_nil ?_
    refine co_then ?_
    have hB42 := hb_call hB32 hb37
    cases hc41 : (rightI l2 != 0)
    ·
     rw [hc41] at h40
     have hp43 : ¬ (rightI l2 ≠ 0) := by first | simpa using hc41 | simpa [and_assoc] using hc41
     clear hc41
     refine co_false h40 rfl ?_
     refine wp_skip ?_
     refine co_then ?_
     refine co_seq ?_
     refine co_reg ?_
     refine pk0 (v := v) h40 rfl fun a44 h44 => ?_; clear h40
     refine pk0 (v := v) h44 rfl fun a45 h45 => ?_; clear h44
     refine pl_nil ?_
     refine co_then ?_
     refine co_seq ?_
     refine co_reg ?_
     refine pk0 (v := .int .i64 0) h45 rfl fun a46 h46 => ?_; clear h45
     refine pl_nil ?_
     refine co_then ?_
     refine co_seq ?_
     refine co_seq ?_
     refine co_reg ?_
     refine pk0 (v := .int .i64 0) h46 rfl fun a47 h47 => ?_; clear h46
     refine pl_nil ?_
     refine co_then ?_
     refine wp_block ?_
     have hRI := RI.of_right (by omega : rightI l = 0)
     have hRO := RI.of_right (by omega : rightI l2 = 0)
     have hlA60 := much_60 (by omega : ¬ muchN l > 60)
     have hlB60 := much_60 (by omega : ¬ muchN l2 > 60)
     have hsx9 := ((SlX.of hs hok hRI).below hB42)
     have hal9 : AllI l l2 0 := ⟨hRI, by omega, Agr.zero⟩
     have h48 : Slots 142 [(1, v2), (2, p), (7, v), (8, .int .i64 0), (9, .int .i64 0)] _ := h47.sub ⟨rfl, rfl, rfl, rfl, rfl, trivial⟩; clear h47
     refine co_loop (fun mm a x => ∃ (i : Nat) (gd : Nat) (ul : Value) (X : List EntT), Slots 142 [(1, v2), (2, p), (7, ul), (8, .int .i64 ((gd : Nat) : Int)), (9, .int .i64 ((i : Nat) : Int))] a ∧ mm = 200 - i ∧ (gd ≤ l2.length) ∧ (i ≤ 200) ∧ (i ≤ gd) ∧ (AllI X l2 gd) ∧ SlX x ul X ∧ Below w.heap.size w x) (200 - 0) ?_ ?_
     · exact ⟨0, 0, v, l, h48.sub ⟨rfl, rfl, rfl, (slot_eq rfl (congrArg (Value.int .i64) (by first | rfl | omega))), (slot_eq rfl (congrArg (Value.int .i64) (by first | rfl | omega))), trivial⟩, rfl, by omega, by omega, by omega, by exact hal9, hsx9, hB42⟩
     · rintro k49 a50 w51 ⟨i, gd, ul, X, h50, rfl, hi52, hi53, hi54, hi55, hf56, hB57⟩
       have hz58 := hB57.size
       have hAl : AllI X l2 gd := by assumption
       have hX100 := hAl.2.1
       have hgX : gd ≤ X.length := by have := hAl.2.2.l; rwa [len_nrm] at this
       refine co_seq ?_
       refine co_seq ?_
       refine co_reg ?_
       refine pk0 (v := .int .i64 ((i : Nat) : Int)) h50 rfl fun a59 h59 => ?_; clear h50
       refine pk0 (v := .bool (decide (((i : Nat) : Int) < 200))) h59 rfl fun a60 h60 => ?_; clear h59
       refine pk0 (v := .bool (decide (((i : Nat) : Int) < 200))) h60 rfl fun a61 h61 => ?_; clear h60
       have hc62 : (decide (((i : Nat) : Int) < 200)) = true := decide_eq_true (by omega)
       rw [hc62] at h61; clear hc62
       refine pk0 (v := .int .i64 ((gd : Nat) : Int)) h61 rfl fun a63 h63 => ?_; clear h61
       refine pk0 (v := v2) h63 rfl fun a64 h64 => ?_; clear h63
       refine pk (v := .int .i64 ((l2.length : Nat) : Int)) h64 rfl (rn_len rfl rfl Try.underlying39 (hs2.below hB57)) fun a65 h65 => ?_; clear h64
       refine pk0 (v := .bool (decide (((gd : Nat) : Int) < ((l2.length : Nat) : Int)))) h65 rfl fun a66 h66 => ?_; clear h65
       refine pk0 (v := .bool (decide (((gd : Nat) : Int) < ((l2.length : Nat) : Int)))) h66 rfl fun a67 h67 => ?_; clear h66
       refine pl_nil ?_
       refine co_then ?_
       cases hc68 : (decide (((gd : Nat) : Int) < ((l2.length : Nat) : Int)))
       ·
        rw [hc68] at h67
        have hp69 : ¬ (((gd : Nat) : Int) < ((l2.length : Nat) : Int)) := of_decide_eq_false hc68
        clear hc68
        refine co_false h67 rfl ?_
        refine wp_exit ?_
        refine co_thenX ?_
        refine co_thenX ?_
        refine co_blockX ?_
        refine co_then ?_
        refine co_seq ?_
        refine co_seq ?_
        refine co_reg ?_
        refine pk0 (v := .int .i64 ((gd : Nat) : Int)) h67 rfl fun a70 h70 => ?_; clear h67
        refine pk0 (v := v2) h70 rfl fun a71 h71 => ?_; clear h70
        refine pk (v := .int .i64 ((l2.length : Nat) : Int)) h71 rfl (rn_len rfl rfl Try.underlying39 (hs2.below hB57)) fun a72 h72 => ?_; clear h71
        refine pk0 (v := .bool (((gd : Nat) : Int) != ((l2.length : Nat) : Int))) h72 rfl fun a73 h73 => ?_; clear h72
        refine pk0 (v := .bool (((gd : Nat) : Int) != ((l2.length : Nat) : Int))) h73 rfl fun a74 h74 => ?_; clear h73
        have hc75 : (((gd : Nat) : Int) != ((l2.length : Nat) : Int)) = false := by first | (simp; done) | (simp; omega) | exact beq_false_of_ne (by omega) | exact beq_iff_eq.2 (by omega)
        rw [hc75] at h74; clear hc75
        refine pk0 (v := ul) h74 rfl fun a76 h76 => ?_; clear h74
        refine pk (v := .int .i64 ((X.length : Nat) : Int)) h76 rfl (rn_len rfl rfl Try.underlying39 (hf56.1)) fun a77 h77 => ?_; clear h76
        refine pk0 (v := v2) h77 rfl fun a78 h78 => ?_; clear h77
        refine pk (v := .int .i64 ((l2.length : Nat) : Int)) h78 rfl (rn_len rfl rfl Try.underlying39 (hs2.below hB57)) fun a79 h79 => ?_; clear h78
        refine pk0 (v := .bool (decide (((X.length : Nat) : Int) < ((l2.length : Nat) : Int)))) h79 rfl fun a80 h80 => ?_; clear h79
        refine pk0 (v := .bool (decide (((X.length : Nat) : Int) < ((l2.length : Nat) : Int)))) h80 rfl fun a81 h81 => ?_; clear h80
        refine pl_nil ?_
        refine co_then ?_
        have hc82 : (decide (((X.length : Nat) : Int) < ((l2.length : Nat) : Int))) = false := decide_eq_false (by omega)
        rw [hc82] at h81; clear hc82
        refine co_false h81 rfl ?_
        refine wp_skip ?_
        refine co_then ?_
        refine co_seq ?_
        refine co_seq ?_
        refine co_reg ?_
        refine pk0 (v := .int .i64 0) h81 rfl fun a83 h83 => ?_; clear h81
        refine pl_nil ?_
        refine co_then ?_
        refine wp_block ?_
        have hsx9 := hf56
        have h84 : Slots 142 [(1, v2), (7, ul), (15, .int .i64 0)] _ := h83.sub ⟨rfl, rfl, rfl, trivial⟩; clear h83
        refine co_loop (fun mm a x => ∃ (j : Nat), Slots 142 [(1, v2), (7, ul), (15, .int .i64 ((j : Nat) : Int))] a ∧ mm = l2.length - j ∧ (j ≤ l2.length) ∧ SlX x ul X ∧ Below w.heap.size w x) (l2.length - 0) ?_ ?_
        · exact ⟨0, h84.sub ⟨rfl, rfl, (slot_eq rfl (congrArg (Value.int .i64) (by first | rfl | omega))), trivial⟩, rfl, by omega, hsx9, hB57⟩
        · rintro k85 a86 w87 ⟨j, h86, rfl, hi88, hf89, hB90⟩
          have hz91 := hB90.size
          refine co_seq ?_
          refine co_seq ?_
          refine co_reg ?_
          refine pk0 (v := .int .i64 ((j : Nat) : Int)) h86 rfl fun a92 h92 => ?_; clear h86
          refine pk0 (v := v2) h92 rfl fun a93 h93 => ?_; clear h92
          refine pk (v := .int .i64 ((l2.length : Nat) : Int)) h93 rfl (rn_len rfl rfl Try.underlying39 (hs2.below hB90)) fun a94 h94 => ?_; clear h93
          refine pk0 (v := .bool (decide (((j : Nat) : Int) < ((l2.length : Nat) : Int)))) h94 rfl fun a95 h95 => ?_; clear h94
          refine pl_nil ?_
          refine co_then ?_
          cases hc96 : (decide (((j : Nat) : Int) < ((l2.length : Nat) : Int)))
          ·
           rw [hc96] at h95
           have hp97 : ¬ (((j : Nat) : Int) < ((l2.length : Nat) : Int)) := of_decide_eq_false hc96
           clear hc96
           refine co_false h95 rfl ?_
           refine wp_exit ?_
           refine co_thenX ?_
           refine co_thenX ?_
           refine co_blockX ?_
           refine co_then ?_
           refine co_seq ?_
           refine co_reg ?_
           refine pw h95 rfl (op_call (args := #[]) (R := fun res xw => res = .bool true ∧ Below w87.heap.size w87 xw) rfl rfl rfl (by kernel_rfl) (by kernel_rfl) (Try.call42 _ _) (awake18 w87) (by rintro e x ⟨rfl, h⟩; exact ⟨_, rfl, rfl, h⟩)) ?_; clear h95
           rintro _ w99 a98 ⟨rfl, hb100⟩ h98
           have hz101 := hb100.size
           refine pk0 (v := .bool true) h98 rfl fun a102 h102 => ?_; clear h98
           refine pl_nil ?_
           refine co_then ?_
           refine wp_ret ?_
           refine co_ret1 h102 rfl rfl ?_
           have hB103 := hb_call hB90 hb100
           exact ⟨rfl, hB103⟩
          ·
           rw [hc96] at h95
           have hp104 : ((j : Nat) : Int) < ((l2.length : Nat) : Int) := of_decide_eq_true hc96
           clear hc96
           refine co_true h95 rfl ?_
           refine wp_skip ?_
           refine co_then ?_
           refine co_seq ?_
           refine wp_block ?_
           refine co_seq ?_
           refine dr_gen (fun x => Below w.heap.size w x ∧ SlX x ul X) (by kernel_rfl) (fun w105 hg106 => ?_) (fun w105 hg106 => ?_)
           ·
            have hz107 := hg106.size
            have hB108 := hb_new hB90 hg106
            have hX109 := hf89.new hg106
            exact ⟨hB108, hX109⟩
           have hz110 := hg106.size
           have hB111 := hb_new hB90 hg106
           have hX112 := hf89.new hg106
           refine dk0 0 (v := ul) h95 rfl rfl ⟨hB111, hX112⟩ fun a113 h113 => ?_; clear h95
           refine dk0 1 (v := .int .i64 ((j : Nat) : Int)) h113 rfl rfl ⟨hB111, hX112⟩ fun a114 h114 => ?_; clear h113
           obtain ⟨y115, hy115⟩ : ∃ z, X[j]? = some z := ⟨_, List.getElem?_eq_getElem (by first | omega | (simp; done) | (simp; omega))⟩
           refine dk 2 (v := pt (blkOf ul) (offOf ul + j * 4)) h114 rfl rfl ⟨hB111, hX112⟩ (fun x hx => (rn_index rfl rfl rfl Try.underlying39 Try.sizeOf47 (hx.2.1) (by omega) (by first | omega | (simp; done) | (simp; omega)))) fun a116 h116 => ?_; clear h114
           refine dk 3 (v := .agg #[.int .i64 y115.client, .int .i64 y115.req, y115.ops, .int .u64 y115.ts]) h116 rfl rfl ⟨hB111, hX112⟩ (fun x hx => (rn_loadN rfl rfl Try.underlying47 rfl (by kernel_rfl) (sl_at (hx.2.1) hy115))) fun a117 h117 => ?_; clear h116
           refine dk0 4 (v := v2) h117 rfl rfl ⟨hB111, hX112⟩ fun a118 h118 => ?_; clear h117
           refine dk0 5 (v := .int .i64 ((j : Nat) : Int)) h118 rfl rfl ⟨hB111, hX112⟩ fun a119 h119 => ?_; clear h118
           obtain ⟨y120, hy120⟩ : ∃ z, l2[j]? = some z := ⟨_, List.getElem?_eq_getElem (by first | omega | (simp; done) | (simp; omega))⟩
           have oky120 := hok2 _ (List.mem_of_getElem? hy120)
           have hat := all_at hAl (by omega) hy115 hy120
           refine dk 6 (v := pt (blkOf v2) (offOf v2 + j * 4)) h119 rfl rfl ⟨hB111, hX112⟩ (fun x hx => (rn_index rfl rfl rfl Try.underlying39 Try.sizeOf47 (hs2.below hx.1) (by omega) (by first | omega | (simp; done) | (simp; omega)))) fun a121 h121 => ?_; clear h119
           refine dk 7 (v := .agg #[.int .i64 y120.client, .int .i64 y120.req, y120.ops, .int .u64 y120.ts]) h121 rfl rfl ⟨hB111, hX112⟩ (fun x hx => (rn_loadN rfl rfl Try.underlying47 rfl (by kernel_rfl) (sl_at (hs2.below hx.1) hy120))) fun a122 h122 => ?_; clear h121
           refine d1 8 h122 rfl rfl (op_call (args := #[.agg #[.int .i64 y115.client, .int .i64 y115.req, y115.ops, .int .u64 y115.ts], .agg #[.int .i64 y120.client, .int .i64 y120.req, y120.ops, .int .u64 y120.ts]]) (R := fun res xw => res = .bool ((y115.client == (y120.client : Int)) && (y115.req == (y120.req : Int))) ∧ Below w105.heap.size w105 xw) rfl rfl rfl (by kernel_rfl) (by kernel_rfl) (Try.call36 _ _) (ritemTwins_any y115.client y115.req (y115.ops) y115.ts y120.client y120.req (y120.ops) y120.ts w105) (by rintro e x ⟨rfl, h⟩; exact ⟨_, rfl, rfl, h⟩)) ?_ ?_; clear h122
           ·
            rintro _ w124 ⟨rfl, hb125⟩
            have hz126 := hb125.size
            have hB127 := hb_call hB111 hb125
            have hX128 := hX112.below hb125
            exact ⟨hB127, hX128⟩
           rintro _ w124 a123 ⟨rfl, hb125⟩ h123
           have hz126 := hb125.size
           have hB127 := hb_call hB111 hb125
           have hX128 := hX112.below hb125
           have hc129 : (((y115.client == (y120.client : Int)) && (y115.req == (y120.req : Int)))) = true := by first | (simp; done) | (simp; omega) | exact beq_false_of_ne (by omega) | exact beq_iff_eq.2 (by omega)
           rw [hc129] at h123; clear hc129
           refine dk0 9 (v := .bool false) h123 rfl rfl ⟨hB127, hX128⟩ fun a130 h130 => ?_; clear h123
           refine dk0 10 (v := .bool false) h130 rfl rfl ⟨hB127, hX128⟩ fun a131 h131 => ?_; clear h130
           refine dk0 11 (v := v2) h131 rfl rfl ⟨hB127, hX128⟩ fun a132 h132 => ?_; clear h131
           refine dk0 12 (v := .int .i64 ((j : Nat) : Int)) h132 rfl rfl ⟨hB127, hX128⟩ fun a133 h133 => ?_; clear h132
           refine dk 13 (v := pt (blkOf v2) (offOf v2 + j * 4)) h133 rfl rfl ⟨hB127, hX128⟩ (fun x hx => (rn_index rfl rfl rfl Try.underlying39 Try.sizeOf47 (hs2.below hx.1) (by omega) (by first | omega | (simp; done) | (simp; omega)))) fun a134 h134 => ?_; clear h133
           refine dk0 14 (v := pt (blkOf v2) (offOf v2 + j * 4 + 3)) h134 rfl rfl ⟨hB127, hX128⟩ fun a135 h135 => ?_; clear h134
           refine dk 15 (v := .int .u64 y120.ts) h135 rfl rfl ⟨hB127, hX128⟩ (fun x hx => (rn_load1 rfl rfl Try.isAgg45 ((sl_at (hs2.below hx.1) hy120) 3 _ rfl))) fun a136 h136 => ?_; clear h135
           refine dk0 16 (v := .bool (y120.ts != 0)) h136 rfl rfl ⟨hB127, hX128⟩ fun a137 h137 => ?_; clear h136
           refine dk0 17 (v := .bool (y120.ts != 0)) h137 rfl rfl ⟨hB127, hX128⟩ fun a138 h138 => ?_; clear h137
           cases hc139 : (y120.ts != 0)
           ·
            rw [hc139] at h138
            have hp140 : ¬ (y120.ts ≠ 0) := by first | simpa using hc139 | simpa [and_assoc] using hc139
            clear hc139
            refine dsk 18 h138 rfl rfl ⟨hB127, hX128⟩ fun a141 h141 => ?_; clear h138
            refine dsk 19 h141 rfl rfl ⟨hB127, hX128⟩ fun a142 h142 => ?_; clear h141
            refine dsk 20 h142 rfl rfl ⟨hB127, hX128⟩ fun a143 h143 => ?_; clear h142
            refine dsk 21 h143 rfl rfl ⟨hB127, hX128⟩ fun a144 h144 => ?_; clear h143
            refine dsk 22 h144 rfl rfl ⟨hB127, hX128⟩ fun a145 h145 => ?_; clear h144
            refine dsk 23 h145 rfl rfl ⟨hB127, hX128⟩ fun a146 h146 => ?_; clear h145
            refine dsk 24 h146 rfl rfl ⟨hB127, hX128⟩ fun a147 h147 => ?_; clear h146
            refine dsk 25 h147 rfl rfl ⟨hB127, hX128⟩ fun a148 h148 => ?_; clear h147
            refine dsk 26 h148 rfl rfl ⟨hB127, hX128⟩ fun a149 h149 => ?_; clear h148
            refine dsk 27 h149 rfl rfl ⟨hB127, hX128⟩ fun a150 h150 => ?_; clear h149
            refine dsk 28 h150 rfl rfl ⟨hB127, hX128⟩ fun a151 h151 => ?_; clear h150
            refine dk0 29 (v := .bool false) h151 rfl rfl ⟨hB127, hX128⟩ fun a152 h152 => ?_; clear h151
            refine dk0 30 (v := .bool false) h152 rfl rfl ⟨hB127, hX128⟩ fun a153 h153 => ?_; clear h152
            refine dr_done (by kernel_rfl) ?_
            refine co_then ?_
            refine co_false h153 rfl ?_
            refine wp_skip ?_
            refine co_blockN ?_
            refine co_then ?_
            refine co_reg ?_
            refine pk0 (v := .int .i64 ((j : Nat) : Int)) h153 rfl fun a154 h154 => ?_; clear h153
            refine pk (v := .int .i64 ((j + 1 : Nat) : Int)) h154 rfl (rn_arith' rfl rfl rfl rfl rfl rfl (IntWalk.i64_in _ (by omega)) (by omega)) fun a155 h155 => ?_; clear h154
            refine pk0 (v := .int .i64 ((j + 1 : Nat) : Int)) h155 rfl fun a156 h156 => ?_; clear h155
            refine pl_nil ?_
            refine co_then ?_
            refine ⟨(l2.length - (j + 1)), by omega, ?_⟩
            have hsx9 := hX128
            exact ⟨j + 1, h156.sub ⟨rfl, rfl, rfl, trivial⟩, rfl, by omega, hsx9, hB127⟩
           ·
            rw [hc139] at h138
            have hp157 : y120.ts ≠ 0 := by first | simpa using hc139 | simpa [and_assoc] using hc139
            clear hc139
            refine dk0 18 (v := ul) h138 rfl rfl ⟨hB127, hX128⟩ fun a158 h158 => ?_; clear h138
            refine dk0 19 (v := .int .i64 ((j : Nat) : Int)) h158 rfl rfl ⟨hB127, hX128⟩ fun a159 h159 => ?_; clear h158
            refine dk 20 (v := pt (blkOf ul) (offOf ul + j * 4)) h159 rfl rfl ⟨hB127, hX128⟩ (fun x hx => (rn_index rfl rfl rfl Try.underlying39 Try.sizeOf47 (hx.2.1) (by omega) (by first | omega | (simp; done) | (simp; omega)))) fun a160 h160 => ?_; clear h159
            refine dk0 21 (v := pt (blkOf ul) (offOf ul + j * 4 + 3)) h160 rfl rfl ⟨hB127, hX128⟩ fun a161 h161 => ?_; clear h160
            refine dk 22 (v := .int .u64 y115.ts) h161 rfl rfl ⟨hB127, hX128⟩ (fun x hx => (rn_load1 rfl rfl Try.isAgg45 ((sl_at (hx.2.1) hy115) 3 _ rfl))) fun a162 h162 => ?_; clear h161
            refine dk0 23 (v := v2) h162 rfl rfl ⟨hB127, hX128⟩ fun a163 h163 => ?_; clear h162
            refine dk0 24 (v := .int .i64 ((j : Nat) : Int)) h163 rfl rfl ⟨hB127, hX128⟩ fun a164 h164 => ?_; clear h163
            refine dk 25 (v := pt (blkOf v2) (offOf v2 + j * 4)) h164 rfl rfl ⟨hB127, hX128⟩ (fun x hx => (rn_index rfl rfl rfl Try.underlying39 Try.sizeOf47 (hs2.below hx.1) (by omega) (by first | omega | (simp; done) | (simp; omega)))) fun a165 h165 => ?_; clear h164
            refine dk0 26 (v := pt (blkOf v2) (offOf v2 + j * 4 + 3)) h165 rfl rfl ⟨hB127, hX128⟩ fun a166 h166 => ?_; clear h165
            refine dk 27 (v := .int .u64 y120.ts) h166 rfl rfl ⟨hB127, hX128⟩ (fun x hx => (rn_load1 rfl rfl Try.isAgg45 ((sl_at (hs2.below hx.1) hy120) 3 _ rfl))) fun a167 h167 => ?_; clear h166
            refine dk0 28 (v := .bool (y115.ts != y120.ts)) h167 rfl rfl ⟨hB127, hX128⟩ fun a168 h168 => ?_; clear h167
            refine dk0 29 (v := .bool (y115.ts != y120.ts)) h168 rfl rfl ⟨hB127, hX128⟩ fun a169 h169 => ?_; clear h168
            refine dk0 30 (v := .bool (y115.ts != y120.ts)) h169 rfl rfl ⟨hB127, hX128⟩ fun a170 h170 => ?_; clear h169
            refine dr_done (by kernel_rfl) ?_
            refine co_then ?_
            have hc171 : (y115.ts != y120.ts) = false := by first | (simp; done) | (simp; omega) | exact beq_false_of_ne (by omega) | exact beq_iff_eq.2 (by omega)
            rw [hc171] at h170; clear hc171
            refine co_false h170 rfl ?_
            refine wp_skip ?_
            refine co_blockN ?_
            refine co_then ?_
            refine co_reg ?_
            refine pk0 (v := .int .i64 ((j : Nat) : Int)) h170 rfl fun a172 h172 => ?_; clear h170
            refine pk (v := .int .i64 ((j + 1 : Nat) : Int)) h172 rfl (rn_arith' rfl rfl rfl rfl rfl rfl (IntWalk.i64_in _ (by omega)) (by omega)) fun a173 h173 => ?_; clear h172
            refine pk0 (v := .int .i64 ((j + 1 : Nat) : Int)) h173 rfl fun a174 h174 => ?_; clear h173
            refine pl_nil ?_
            refine co_then ?_
            refine ⟨(l2.length - (j + 1)), by omega, ?_⟩
            have hsx9 := hX128
            exact ⟨j + 1, h174.sub ⟨rfl, rfl, rfl, trivial⟩, rfl, by omega, hsx9, hB127⟩
       ·
        rw [hc68] at h67
        have hp175 : ((gd : Nat) : Int) < ((l2.length : Nat) : Int) := of_decide_eq_true hc68
        clear hc68
        refine co_true h67 rfl ?_
        refine wp_skip ?_
        refine co_then ?_
        refine co_seq ?_
        refine wp_block ?_
        refine co_seq ?_
        refine co_reg ?_
        refine pk0 (v := .int .i64 1) h67 rfl fun a176 h176 => ?_; clear h67
        refine pl_nil ?_
        refine co_then ?_
        refine co_seq ?_
        refine co_seq ?_
        refine co_reg ?_
        refine pk0 (v := .int .i64 ((i : Nat) : Int)) h176 rfl fun a177 h177 => ?_; clear h176
        refine pk0 (v := p) h177 rfl fun a178 h178 => ?_; clear h177
        refine pk (v := .int .i64 ((pl.length : Nat) : Int)) h178 rfl (rn_len rfl rfl Try.underlying79 (hp.below hB57)) fun a179 h179 => ?_; clear h178
        refine pk0 (v := .bool (decide (((i : Nat) : Int) < ((pl.length : Nat) : Int)))) h179 rfl fun a180 h180 => ?_; clear h179
        refine pl_nil ?_
        refine co_then ?_
        cases hc181 : (decide (((i : Nat) : Int) < ((pl.length : Nat) : Int)))
        ·
         rw [hc181] at h180
         have hp182 : ¬ (((i : Nat) : Int) < ((pl.length : Nat) : Int)) := of_decide_eq_false hc181
         clear hc181
         refine co_false h180 rfl ?_
         refine wp_skip ?_
         refine co_then ?_
         refine co_seq ?_
         refine co_reg ?_
         refine pk0 (v := ul) h180 rfl fun a183 h183 => ?_; clear h180
         refine pk0 (v := .int .i64 ((gd : Nat) : Int)) h183 rfl fun a184 h184 => ?_; clear h183
         refine pk0 (v := .int .i64 ((gd : Nat) : Int)) h184 rfl fun a185 h185 => ?_; clear h184
         refine pk0 (v := v2) h185 rfl fun a186 h186 => ?_; clear h185
         refine pk0 (v := .int .i64 ((gd : Nat) : Int)) h186 rfl fun a187 h187 => ?_; clear h186
         refine pk0 (v := v2) h187 rfl fun a188 h188 => ?_; clear h187
         refine pk (v := .int .i64 ((l2.length : Nat) : Int)) h188 rfl (rn_len rfl rfl Try.underlying39 (hs2.below hB57)) fun a189 h189 => ?_; clear h188
         refine pk0 (v := .int .i64 ((gd : Nat) : Int)) h189 rfl fun a190 h190 => ?_; clear h189
         refine pk0 (v := .int .i64 1) h190 rfl fun a191 h191 => ?_; clear h190
         refine pk (v := .int .i64 ((gd + 1 : Nat) : Int)) h191 rfl (rn_arith' rfl rfl rfl rfl rfl rfl (IntWalk.i64_in _ (by omega)) (by omega)) fun a192 h192 => ?_; clear h191
         by_cases hs193 : ((gd + 1 : Nat) : Int) < ((l2.length : Nat) : Int)
         ·
          refine pk (v := .int .i64 ((gd + 1 : Nat) : Int)) h192 rfl (rn_min2 rfl rfl rfl rfl (by omega)) fun a194 h194 => ?_; clear h192
          refine pk (v := subV v2 gd (gd + 1) 4) h194 rfl (rn_sliceLH rfl rfl rfl rfl Try.underlying39 Try.sizeOf47 (hs2.below hB57) (by omega) (by omega) (by omega) (by omega)) fun a195 h195 => ?_; clear h194
          obtain ⟨mm198, hmm199⟩ : ∃ z : Nat, z = gd + 1 := ⟨_, rfl⟩
          have hst := all_step hAl hRO (by omega) (gd + 1) (by omega)
          have hst1 : (tkF (X.map e0) gd gd ((l2.take (gd + 1)).drop gd)).2.1 = mm198 := by rw [hmm199]; exact hst.1
          have hst2 : ∀ X' : List EntT, X'.map e0 = (tkF (X.map e0) gd gd ((l2.take (gd + 1)).drop gd)).2.2 → AllI X' l2 mm198 := by rw [hmm199]; exact hst.2
          have hq200 : gd < mm198 ∧ mm198 ≤ l2.length := by omega
          refine pw h195 rfl (op_call (args := #[ul, .int .i64 ((gd : Nat) : Int), .int .i64 ((gd : Nat) : Int), subV v2 gd (gd + 1) 4]) (R := fun res xw => ∃ (u : Value) (NS : List NtT), res = .tuple #[u, .int .i64 ((mm198 : Nat) : Int)] ∧ NtX xw u NS ∧ NS.map ntP = (tkF (X.map e0) gd gd ((l2.take (gd + 1)).drop gd)).1 ∧ Below w51.heap.size w51 xw) rfl rfl rfl (by kernel_rfl) (by kernel_rfl) (Try.call43 _ _) (takeX gd gd w51 hf56 (SlX.sub ((SlX.of hs2 hok2 hRO).below hB57) (sl_sub (hs2.below hB57) _ _ (by omega) (by omega)) (fun z hz => by first | exact List.mem_of_mem_take (List.mem_of_mem_drop hz) | exact List.mem_of_mem_drop hz | exact List.mem_of_mem_take hz)) hAl.1 (by omega) (by first | (rw [List.length_drop, List.length_take]; omega) | (rw [List.length_drop]; omega)) (by omega)) (by rintro e x ⟨u, NS, h0, h⟩; rw [hst1] at h0; exact ⟨_, h0, u, NS, rfl, h⟩)) ?_; clear h195
          rintro _ w197 a196 ⟨u201, NS202, rfl, hN203, hq204, hb205⟩ h196
          have hz206 := hb205.size
          have hl207 := sl_len hN203.1
          refine pk0 (v := .tuple #[u201, .int .i64 ((mm198 : Nat) : Int)]) h196 rfl fun a208 h208 => ?_; clear h196
          refine pk0 (v := u201) h208 rfl fun a209 h209 => ?_; clear h208
          refine pk0 (v := .int .i64 ((mm198 : Nat) : Int)) h209 rfl fun a210 h210 => ?_; clear h209
          refine pk0 (v := u201) h210 rfl fun a211 h211 => ?_; clear h210
          refine pk0 (v := .int .i64 ((mm198 : Nat) : Int)) h211 rfl fun a212 h212 => ?_; clear h211
          refine pl_nil ?_
          refine co_then ?_
          refine co_seq ?_
          refine co_reg ?_
          refine pk0 (v := ul) h212 rfl fun a213 h213 => ?_; clear h212
          refine pk0 (v := u201) h213 rfl fun a214 h214 => ?_; clear h213
          have hB217 := hb_call hB57 hb205
          have hX218 := hf56.below hb205
          refine pw h214 rfl (op_call (args := #[ul, u201]) (R := fun res xw => ∃ (u : Value) (X9 : List EntT), res = .tuple #[u, .bool true] ∧ SlX xw u X9 ∧ X9.map e0 = (tkF (X.map e0) gd gd ((l2.take (gd + 1)).drop gd)).2.2 ∧ X9.length ≤ 100 ∧ Below w197.heap.size w197 xw) rfl rfl rfl (by kernel_rfl) (by kernel_rfl) (Try.call50 _ _) (laid18_any ul X u201 NS202 (tkF (X.map e0) gd gd ((l2.take (gd + 1)).drop gd)).2.2 w197 hX218 hN203.1 hN203.2 (by omega) (by rw [hq204]; exact rp_tk _ _ _ _)) (by rintro e x ⟨u, X, rfl, h⟩; exact ⟨_, rfl, u, X, rfl, h⟩)) ?_; clear h214
          rintro _ w216 a215 ⟨u219, X220, rfl, hX221, hK222, hx223, hb224⟩ h215
          have hz225 := hb224.size
          have hAl2 := hst2 X220 hK222
          have hgd2 := hAl2.2.2.l
          refine pk0 (v := .tuple #[u219, .bool true]) h215 rfl fun a226 h226 => ?_; clear h215
          refine pk0 (v := u219) h226 rfl fun a227 h227 => ?_; clear h226
          refine pk0 (v := .bool true) h227 rfl fun a228 h228 => ?_; clear h227
          refine pk0 (v := u219) h228 rfl fun a229 h229 => ?_; clear h228
          refine pk0 (v := .bool true) h229 rfl fun a230 h230 => ?_; clear h229
          refine pl_nil ?_
          refine co_then ?_
          refine co_seq ?_
          refine co_seq ?_
          refine co_reg ?_
          refine pk0 (v := .bool true) h230 rfl fun a231 h231 => ?_; clear h230
          refine pk0 (v := .bool false) h231 rfl fun a232 h232 => ?_; clear h231
          refine pk0 (v := .bool false) h232 rfl fun a233 h233 => ?_; clear h232
          refine pk0 (v := .int .i64 ((mm198 : Nat) : Int)) h233 rfl fun a234 h234 => ?_; clear h233
          refine pk0 (v := .int .i64 ((gd : Nat) : Int)) h234 rfl fun a235 h235 => ?_; clear h234
          refine pk0 (v := .bool (decide (((mm198 : Nat) : Int) ≤ ((gd : Nat) : Int)))) h235 rfl fun a236 h236 => ?_; clear h235
          refine pk0 (v := .bool (decide (((mm198 : Nat) : Int) ≤ ((gd : Nat) : Int)))) h236 rfl fun a237 h237 => ?_; clear h236
          refine pk0 (v := .bool (decide (((mm198 : Nat) : Int) ≤ ((gd : Nat) : Int)))) h237 rfl fun a238 h238 => ?_; clear h237
          have hc239 : (decide (((mm198 : Nat) : Int) ≤ ((gd : Nat) : Int))) = false := decide_eq_false (by omega)
          rw [hc239] at h238; clear hc239
          refine pk0 (v := u219) h238 rfl fun a240 h240 => ?_; clear h238
          have hB243 := hb_call hB217 hb224
          refine pw h240 rfl (op_call (args := #[u219]) (R := fun res xw => res = .int .i64 0 ∧ Below w216.heap.size w216 xw) rfl rfl rfl (by kernel_rfl) (by kernel_rfl) (Try.call34 _ _) (ritemRight_any u219 X220 w216 hX221.1 hX221.ok) (by rintro e x ⟨h0, h⟩; rw [hAl2.1.right] at h0; exact ⟨_, h0, rfl, h⟩)) ?_; clear h240
          rintro _ w242 a241 ⟨rfl, hb244⟩ h241
          have hz245 := hb244.size
          refine pk0 (v := .bool ((0 : Int) != 0)) h241 rfl fun a246 h246 => ?_; clear h241
          refine pk0 (v := .bool ((0 : Int) != 0)) h246 rfl fun a247 h247 => ?_; clear h246
          refine pl_nil ?_
          refine co_then ?_
          have hc248 : ((0 : Int) != 0) = false := by first | (simp; done) | (simp; omega) | exact beq_false_of_ne (by omega) | exact beq_iff_eq.2 (by omega)
          rw [hc248] at h247; clear hc248
          refine co_false h247 rfl ?_
          refine wp_skip ?_
          refine co_then ?_
          refine co_seq ?_
          refine co_reg ?_
          refine pk0 (v := u219) h247 rfl fun a249 h249 => ?_; clear h247
          refine pk0 (v := u219) h249 rfl fun a250 h250 => ?_; clear h249
          refine pl_nil ?_
          refine co_then ?_
          refine co_reg ?_
          refine pk0 (v := .int .i64 ((mm198 : Nat) : Int)) h250 rfl fun a251 h251 => ?_; clear h250
          refine pk0 (v := .int .i64 ((mm198 : Nat) : Int)) h251 rfl fun a252 h252 => ?_; clear h251
          refine pl_nil ?_
          refine co_blockN ?_
          refine co_then ?_
          refine co_reg ?_
          refine pk0 (v := .int .i64 ((i : Nat) : Int)) h252 rfl fun a253 h253 => ?_; clear h252
          refine pk (v := .int .i64 ((i + 1 : Nat) : Int)) h253 rfl (rn_arith' rfl rfl rfl rfl rfl rfl (IntWalk.i64_in _ (by omega)) (by omega)) fun a254 h254 => ?_; clear h253
          refine pk0 (v := .int .i64 ((i + 1 : Nat) : Int)) h254 rfl fun a255 h255 => ?_; clear h254
          refine pl_nil ?_
          refine co_then ?_
          have hX256 := hX221.below hb244
          refine ⟨(200 - (i + 1)), by omega, ?_⟩
          have hsx9 := hX256
          have hal9 := hAl2
          have hB257 := hb_call hB243 hb244
          exact ⟨i + 1, mm198, u219, X220, h255.sub ⟨rfl, rfl, rfl, rfl, rfl, trivial⟩, rfl, by omega, by omega, by omega, by exact hal9, hsx9, hB257⟩
         ·
          refine pk (v := .int .i64 ((l2.length : Nat) : Int)) h192 rfl (rn_min1 rfl rfl rfl rfl (by omega)) fun a258 h258 => ?_; clear h192
          refine pk (v := subV v2 gd l2.length 4) h258 rfl (rn_sliceLH rfl rfl rfl rfl Try.underlying39 Try.sizeOf47 (hs2.below hB57) (by omega) (by omega) (by omega) (by omega)) fun a259 h259 => ?_; clear h258
          obtain ⟨mm262, hmm263⟩ : ∃ z : Nat, z = l2.length := ⟨_, rfl⟩
          have hst := all_step hAl hRO (by omega) (l2.length) (by omega)
          have hst1 : (tkF (X.map e0) gd gd ((l2.take l2.length).drop gd)).2.1 = mm262 := by rw [hmm263]; exact hst.1
          have hst2 : ∀ X' : List EntT, X'.map e0 = (tkF (X.map e0) gd gd ((l2.take l2.length).drop gd)).2.2 → AllI X' l2 mm262 := by rw [hmm263]; exact hst.2
          have hq264 : gd < mm262 ∧ mm262 ≤ l2.length := by omega
          refine pw h259 rfl (op_call (args := #[ul, .int .i64 ((gd : Nat) : Int), .int .i64 ((gd : Nat) : Int), subV v2 gd l2.length 4]) (R := fun res xw => ∃ (u : Value) (NS : List NtT), res = .tuple #[u, .int .i64 ((mm262 : Nat) : Int)] ∧ NtX xw u NS ∧ NS.map ntP = (tkF (X.map e0) gd gd ((l2.take l2.length).drop gd)).1 ∧ Below w51.heap.size w51 xw) rfl rfl rfl (by kernel_rfl) (by kernel_rfl) (Try.call43 _ _) (takeX gd gd w51 hf56 (SlX.sub ((SlX.of hs2 hok2 hRO).below hB57) (sl_sub (hs2.below hB57) _ _ (by omega) (by omega)) (fun z hz => by first | exact List.mem_of_mem_take (List.mem_of_mem_drop hz) | exact List.mem_of_mem_drop hz | exact List.mem_of_mem_take hz)) hAl.1 (by omega) (by first | (rw [List.length_drop, List.length_take]; omega) | (rw [List.length_drop]; omega)) (by omega)) (by rintro e x ⟨u, NS, h0, h⟩; rw [hst1] at h0; exact ⟨_, h0, u, NS, rfl, h⟩)) ?_; clear h259
          rintro _ w261 a260 ⟨u265, NS266, rfl, hN267, hq268, hb269⟩ h260
          have hz270 := hb269.size
          have hl271 := sl_len hN267.1
          refine pk0 (v := .tuple #[u265, .int .i64 ((mm262 : Nat) : Int)]) h260 rfl fun a272 h272 => ?_; clear h260
          refine pk0 (v := u265) h272 rfl fun a273 h273 => ?_; clear h272
          refine pk0 (v := .int .i64 ((mm262 : Nat) : Int)) h273 rfl fun a274 h274 => ?_; clear h273
          refine pk0 (v := u265) h274 rfl fun a275 h275 => ?_; clear h274
          refine pk0 (v := .int .i64 ((mm262 : Nat) : Int)) h275 rfl fun a276 h276 => ?_; clear h275
          refine pl_nil ?_
          refine co_then ?_
          refine co_seq ?_
          refine co_reg ?_
          refine pk0 (v := ul) h276 rfl fun a277 h277 => ?_; clear h276
          refine pk0 (v := u265) h277 rfl fun a278 h278 => ?_; clear h277
          have hB281 := hb_call hB57 hb269
          have hX282 := hf56.below hb269
          refine pw h278 rfl (op_call (args := #[ul, u265]) (R := fun res xw => ∃ (u : Value) (X9 : List EntT), res = .tuple #[u, .bool true] ∧ SlX xw u X9 ∧ X9.map e0 = (tkF (X.map e0) gd gd ((l2.take l2.length).drop gd)).2.2 ∧ X9.length ≤ 100 ∧ Below w261.heap.size w261 xw) rfl rfl rfl (by kernel_rfl) (by kernel_rfl) (Try.call50 _ _) (laid18_any ul X u265 NS266 (tkF (X.map e0) gd gd ((l2.take l2.length).drop gd)).2.2 w261 hX282 hN267.1 hN267.2 (by omega) (by rw [hq268]; exact rp_tk _ _ _ _)) (by rintro e x ⟨u, X, rfl, h⟩; exact ⟨_, rfl, u, X, rfl, h⟩)) ?_; clear h278
          rintro _ w280 a279 ⟨u283, X284, rfl, hX285, hK286, hx287, hb288⟩ h279
          have hz289 := hb288.size
          have hAl2 := hst2 X284 hK286
          have hgd2 := hAl2.2.2.l
          refine pk0 (v := .tuple #[u283, .bool true]) h279 rfl fun a290 h290 => ?_; clear h279
          refine pk0 (v := u283) h290 rfl fun a291 h291 => ?_; clear h290
          refine pk0 (v := .bool true) h291 rfl fun a292 h292 => ?_; clear h291
          refine pk0 (v := u283) h292 rfl fun a293 h293 => ?_; clear h292
          refine pk0 (v := .bool true) h293 rfl fun a294 h294 => ?_; clear h293
          refine pl_nil ?_
          refine co_then ?_
          refine co_seq ?_
          refine co_seq ?_
          refine co_reg ?_
          refine pk0 (v := .bool true) h294 rfl fun a295 h295 => ?_; clear h294
          refine pk0 (v := .bool false) h295 rfl fun a296 h296 => ?_; clear h295
          refine pk0 (v := .bool false) h296 rfl fun a297 h297 => ?_; clear h296
          refine pk0 (v := .int .i64 ((mm262 : Nat) : Int)) h297 rfl fun a298 h298 => ?_; clear h297
          refine pk0 (v := .int .i64 ((gd : Nat) : Int)) h298 rfl fun a299 h299 => ?_; clear h298
          refine pk0 (v := .bool (decide (((mm262 : Nat) : Int) ≤ ((gd : Nat) : Int)))) h299 rfl fun a300 h300 => ?_; clear h299
          refine pk0 (v := .bool (decide (((mm262 : Nat) : Int) ≤ ((gd : Nat) : Int)))) h300 rfl fun a301 h301 => ?_; clear h300
          refine pk0 (v := .bool (decide (((mm262 : Nat) : Int) ≤ ((gd : Nat) : Int)))) h301 rfl fun a302 h302 => ?_; clear h301
          have hc303 : (decide (((mm262 : Nat) : Int) ≤ ((gd : Nat) : Int))) = false := decide_eq_false (by omega)
          rw [hc303] at h302; clear hc303
          refine pk0 (v := u283) h302 rfl fun a304 h304 => ?_; clear h302
          have hB307 := hb_call hB281 hb288
          refine pw h304 rfl (op_call (args := #[u283]) (R := fun res xw => res = .int .i64 0 ∧ Below w280.heap.size w280 xw) rfl rfl rfl (by kernel_rfl) (by kernel_rfl) (Try.call34 _ _) (ritemRight_any u283 X284 w280 hX285.1 hX285.ok) (by rintro e x ⟨h0, h⟩; rw [hAl2.1.right] at h0; exact ⟨_, h0, rfl, h⟩)) ?_; clear h304
          rintro _ w306 a305 ⟨rfl, hb308⟩ h305
          have hz309 := hb308.size
          refine pk0 (v := .bool ((0 : Int) != 0)) h305 rfl fun a310 h310 => ?_; clear h305
          refine pk0 (v := .bool ((0 : Int) != 0)) h310 rfl fun a311 h311 => ?_; clear h310
          refine pl_nil ?_
          refine co_then ?_
          have hc312 : ((0 : Int) != 0) = false := by first | (simp; done) | (simp; omega) | exact beq_false_of_ne (by omega) | exact beq_iff_eq.2 (by omega)
          rw [hc312] at h311; clear hc312
          refine co_false h311 rfl ?_
          refine wp_skip ?_
          refine co_then ?_
          refine co_seq ?_
          refine co_reg ?_
          refine pk0 (v := u283) h311 rfl fun a313 h313 => ?_; clear h311
          refine pk0 (v := u283) h313 rfl fun a314 h314 => ?_; clear h313
          refine pl_nil ?_
          refine co_then ?_
          refine co_reg ?_
          refine pk0 (v := .int .i64 ((mm262 : Nat) : Int)) h314 rfl fun a315 h315 => ?_; clear h314
          refine pk0 (v := .int .i64 ((mm262 : Nat) : Int)) h315 rfl fun a316 h316 => ?_; clear h315
          refine pl_nil ?_
          refine co_blockN ?_
          refine co_then ?_
          refine co_reg ?_
          refine pk0 (v := .int .i64 ((i : Nat) : Int)) h316 rfl fun a317 h317 => ?_; clear h316
          refine pk (v := .int .i64 ((i + 1 : Nat) : Int)) h317 rfl (rn_arith' rfl rfl rfl rfl rfl rfl (IntWalk.i64_in _ (by omega)) (by omega)) fun a318 h318 => ?_; clear h317
          refine pk0 (v := .int .i64 ((i + 1 : Nat) : Int)) h318 rfl fun a319 h319 => ?_; clear h318
          refine pl_nil ?_
          refine co_then ?_
          have hX320 := hX285.below hb308
          refine ⟨(200 - (i + 1)), by omega, ?_⟩
          have hsx9 := hX320
          have hal9 := hAl2
          have hB321 := hb_call hB307 hb308
          exact ⟨i + 1, mm262, u283, X284, h319.sub ⟨rfl, rfl, rfl, rfl, rfl, trivial⟩, rfl, by omega, by omega, by omega, by exact hal9, hsx9, hB321⟩
        ·
         rw [hc181] at h180
         have hp322 : ((i : Nat) : Int) < ((pl.length : Nat) : Int) := of_decide_eq_true hc181
         clear hc181
         refine co_true h180 rfl ?_
         refine co_reg ?_
         refine pk0 (v := p) h180 rfl fun a323 h323 => ?_; clear h180
         refine pk0 (v := .int .i64 ((i : Nat) : Int)) h323 rfl fun a324 h324 => ?_; clear h323
         obtain ⟨y325, hy325⟩ : ∃ z, pl[i]? = some z := ⟨_, List.getElem?_eq_getElem (by first | omega | (simp; done) | (simp; omega))⟩
         have oky325 := hokp _ (List.mem_of_getElem? hy325)
         have k326 : 0 ≤ y325 := oky325.1
         have k327 : y325 ≤ 255 := oky325.2
         refine pk (v := pt (blkOf p) (offOf p + i * 1)) h324 rfl (rn_index rfl rfl rfl Try.underlying79 Try.sizeOf5 (hp.below hB57) (by omega) (by first | omega | (simp; done) | (simp; omega))) fun a328 h328 => ?_; clear h324
         refine pk (v := .int .u8 y325) h328 rfl (rn_load1 rfl rfl Try.isAgg5 ((sl_at (hp.below hB57) hy325) 0 _ rfl)) fun a329 h329 => ?_; clear h328
         refine pk (v := .int .i64 y325) h329 rfl (rn_conv rfl rfl Try.underlying5 Try.underlying3 (IntWalk.i64_in _ (by omega))) fun a330 h330 => ?_; clear h329
         obtain ⟨rm331, hrm332⟩ : ∃ z : Int, y325.tmod 5 = z ∧ 0 ≤ z ∧ z < 5 := ⟨_, rfl, rem_in (by omega) (by omega)⟩
         refine pk (v := .int .i64 rm331) h330 rfl (rn_remA rfl rfl rfl (by decide) rfl hrm332.1) fun a333 h333 => ?_; clear h330
         refine pk (v := .int .i64 (1 + rm331)) h333 rfl (rn_arith rfl rfl rfl rfl rfl rfl (IntWalk.i64_in _ (by omega))) fun a334 h334 => ?_; clear h333
         refine pk0 (v := .int .i64 (1 + rm331)) h334 rfl fun a335 h335 => ?_; clear h334
         refine pl_nil ?_
         refine co_then ?_
         refine co_seq ?_
         refine co_reg ?_
         refine pk0 (v := ul) h335 rfl fun a336 h336 => ?_; clear h335
         refine pk0 (v := .int .i64 ((gd : Nat) : Int)) h336 rfl fun a337 h337 => ?_; clear h336
         refine pk0 (v := .int .i64 ((gd : Nat) : Int)) h337 rfl fun a338 h338 => ?_; clear h337
         refine pk0 (v := v2) h338 rfl fun a339 h339 => ?_; clear h338
         refine pk0 (v := .int .i64 ((gd : Nat) : Int)) h339 rfl fun a340 h340 => ?_; clear h339
         refine pk0 (v := v2) h340 rfl fun a341 h341 => ?_; clear h340
         refine pk (v := .int .i64 ((l2.length : Nat) : Int)) h341 rfl (rn_len rfl rfl Try.underlying39 (hs2.below hB57)) fun a342 h342 => ?_; clear h341
         refine pk0 (v := .int .i64 ((gd : Nat) : Int)) h342 rfl fun a343 h343 => ?_; clear h342
         refine pk0 (v := .int .i64 (1 + rm331)) h343 rfl fun a344 h344 => ?_; clear h343
         refine pk (v := .int .i64 (((gd : Nat) : Int) + (1 + rm331))) h344 rfl (rn_arith rfl rfl rfl rfl rfl rfl (IntWalk.i64_in _ (by omega))) fun a345 h345 => ?_; clear h344
         by_cases hs346 : ((gd : Nat) : Int) + (1 + rm331) < ((l2.length : Nat) : Int)
         ·
          refine pk (v := .int .i64 (((gd : Nat) : Int) + (1 + rm331))) h345 rfl (rn_min2 rfl rfl rfl rfl (by omega)) fun a347 h347 => ?_; clear h345
          refine pk (v := subV v2 gd ((((gd : Nat) : Int) + (1 + rm331)).toNat) 4) h347 rfl (rn_sliceLH rfl rfl rfl rfl Try.underlying39 Try.sizeOf47 (hs2.below hB57) (by omega) (by omega) (by omega) (by omega)) fun a348 h348 => ?_; clear h347
          obtain ⟨mm351, hmm352⟩ : ∃ z : Nat, z = (((gd : Nat) : Int) + (1 + rm331)).toNat := ⟨_, rfl⟩
          have hst := all_step hAl hRO (by omega) ((((gd : Nat) : Int) + (1 + rm331)).toNat) (by omega)
          have hst1 : (tkF (X.map e0) gd gd ((l2.take ((((gd : Nat) : Int) + (1 + rm331)).toNat)).drop gd)).2.1 = mm351 := by rw [hmm352]; exact hst.1
          have hst2 : ∀ X' : List EntT, X'.map e0 = (tkF (X.map e0) gd gd ((l2.take ((((gd : Nat) : Int) + (1 + rm331)).toNat)).drop gd)).2.2 → AllI X' l2 mm351 := by rw [hmm352]; exact hst.2
          have hq353 : gd < mm351 ∧ mm351 ≤ l2.length := by omega
          refine pw h348 rfl (op_call (args := #[ul, .int .i64 ((gd : Nat) : Int), .int .i64 ((gd : Nat) : Int), subV v2 gd ((((gd : Nat) : Int) + (1 + rm331)).toNat) 4]) (R := fun res xw => ∃ (u : Value) (NS : List NtT), res = .tuple #[u, .int .i64 ((mm351 : Nat) : Int)] ∧ NtX xw u NS ∧ NS.map ntP = (tkF (X.map e0) gd gd ((l2.take ((((gd : Nat) : Int) + (1 + rm331)).toNat)).drop gd)).1 ∧ Below w51.heap.size w51 xw) rfl rfl rfl (by kernel_rfl) (by kernel_rfl) (Try.call43 _ _) (takeX gd gd w51 hf56 (SlX.sub ((SlX.of hs2 hok2 hRO).below hB57) (sl_sub (hs2.below hB57) _ _ (by omega) (by omega)) (fun z hz => by first | exact List.mem_of_mem_take (List.mem_of_mem_drop hz) | exact List.mem_of_mem_drop hz | exact List.mem_of_mem_take hz)) hAl.1 (by omega) (by first | (rw [List.length_drop, List.length_take]; omega) | (rw [List.length_drop]; omega)) (by omega)) (by rintro e x ⟨u, NS, h0, h⟩; rw [hst1] at h0; exact ⟨_, h0, u, NS, rfl, h⟩)) ?_; clear h348
          rintro _ w350 a349 ⟨u354, NS355, rfl, hN356, hq357, hb358⟩ h349
          have hz359 := hb358.size
          have hl360 := sl_len hN356.1
          refine pk0 (v := .tuple #[u354, .int .i64 ((mm351 : Nat) : Int)]) h349 rfl fun a361 h361 => ?_; clear h349
          refine pk0 (v := u354) h361 rfl fun a362 h362 => ?_; clear h361
          refine pk0 (v := .int .i64 ((mm351 : Nat) : Int)) h362 rfl fun a363 h363 => ?_; clear h362
          refine pk0 (v := u354) h363 rfl fun a364 h364 => ?_; clear h363
          refine pk0 (v := .int .i64 ((mm351 : Nat) : Int)) h364 rfl fun a365 h365 => ?_; clear h364
          refine pl_nil ?_
          refine co_then ?_
          refine co_seq ?_
          refine co_reg ?_
          refine pk0 (v := ul) h365 rfl fun a366 h366 => ?_; clear h365
          refine pk0 (v := u354) h366 rfl fun a367 h367 => ?_; clear h366
          have hB370 := hb_call hB57 hb358
          have hX371 := hf56.below hb358
          refine pw h367 rfl (op_call (args := #[ul, u354]) (R := fun res xw => ∃ (u : Value) (X9 : List EntT), res = .tuple #[u, .bool true] ∧ SlX xw u X9 ∧ X9.map e0 = (tkF (X.map e0) gd gd ((l2.take ((((gd : Nat) : Int) + (1 + rm331)).toNat)).drop gd)).2.2 ∧ X9.length ≤ 100 ∧ Below w350.heap.size w350 xw) rfl rfl rfl (by kernel_rfl) (by kernel_rfl) (Try.call50 _ _) (laid18_any ul X u354 NS355 (tkF (X.map e0) gd gd ((l2.take ((((gd : Nat) : Int) + (1 + rm331)).toNat)).drop gd)).2.2 w350 hX371 hN356.1 hN356.2 (by omega) (by rw [hq357]; exact rp_tk _ _ _ _)) (by rintro e x ⟨u, X, rfl, h⟩; exact ⟨_, rfl, u, X, rfl, h⟩)) ?_; clear h367
          rintro _ w369 a368 ⟨u372, X373, rfl, hX374, hK375, hx376, hb377⟩ h368
          have hz378 := hb377.size
          have hAl2 := hst2 X373 hK375
          have hgd2 := hAl2.2.2.l
          refine pk0 (v := .tuple #[u372, .bool true]) h368 rfl fun a379 h379 => ?_; clear h368
          refine pk0 (v := u372) h379 rfl fun a380 h380 => ?_; clear h379
          refine pk0 (v := .bool true) h380 rfl fun a381 h381 => ?_; clear h380
          refine pk0 (v := u372) h381 rfl fun a382 h382 => ?_; clear h381
          refine pk0 (v := .bool true) h382 rfl fun a383 h383 => ?_; clear h382
          refine pl_nil ?_
          refine co_then ?_
          refine co_seq ?_
          refine co_seq ?_
          refine co_reg ?_
          refine pk0 (v := .bool true) h383 rfl fun a384 h384 => ?_; clear h383
          refine pk0 (v := .bool false) h384 rfl fun a385 h385 => ?_; clear h384
          refine pk0 (v := .bool false) h385 rfl fun a386 h386 => ?_; clear h385
          refine pk0 (v := .int .i64 ((mm351 : Nat) : Int)) h386 rfl fun a387 h387 => ?_; clear h386
          refine pk0 (v := .int .i64 ((gd : Nat) : Int)) h387 rfl fun a388 h388 => ?_; clear h387
          refine pk0 (v := .bool (decide (((mm351 : Nat) : Int) ≤ ((gd : Nat) : Int)))) h388 rfl fun a389 h389 => ?_; clear h388
          refine pk0 (v := .bool (decide (((mm351 : Nat) : Int) ≤ ((gd : Nat) : Int)))) h389 rfl fun a390 h390 => ?_; clear h389
          refine pk0 (v := .bool (decide (((mm351 : Nat) : Int) ≤ ((gd : Nat) : Int)))) h390 rfl fun a391 h391 => ?_; clear h390
          have hc392 : (decide (((mm351 : Nat) : Int) ≤ ((gd : Nat) : Int))) = false := decide_eq_false (by omega)
          rw [hc392] at h391; clear hc392
          refine pk0 (v := u372) h391 rfl fun a393 h393 => ?_; clear h391
          have hB396 := hb_call hB370 hb377
          refine pw h393 rfl (op_call (args := #[u372]) (R := fun res xw => res = .int .i64 0 ∧ Below w369.heap.size w369 xw) rfl rfl rfl (by kernel_rfl) (by kernel_rfl) (Try.call34 _ _) (ritemRight_any u372 X373 w369 hX374.1 hX374.ok) (by rintro e x ⟨h0, h⟩; rw [hAl2.1.right] at h0; exact ⟨_, h0, rfl, h⟩)) ?_; clear h393
          rintro _ w395 a394 ⟨rfl, hb397⟩ h394
          have hz398 := hb397.size
          refine pk0 (v := .bool ((0 : Int) != 0)) h394 rfl fun a399 h399 => ?_; clear h394
          refine pk0 (v := .bool ((0 : Int) != 0)) h399 rfl fun a400 h400 => ?_; clear h399
          refine pl_nil ?_
          refine co_then ?_
          have hc401 : ((0 : Int) != 0) = false := by first | (simp; done) | (simp; omega) | exact beq_false_of_ne (by omega) | exact beq_iff_eq.2 (by omega)
          rw [hc401] at h400; clear hc401
          refine co_false h400 rfl ?_
          refine wp_skip ?_
          refine co_then ?_
          refine co_seq ?_
          refine co_reg ?_
          refine pk0 (v := u372) h400 rfl fun a402 h402 => ?_; clear h400
          refine pk0 (v := u372) h402 rfl fun a403 h403 => ?_; clear h402
          refine pl_nil ?_
          refine co_then ?_
          refine co_reg ?_
          refine pk0 (v := .int .i64 ((mm351 : Nat) : Int)) h403 rfl fun a404 h404 => ?_; clear h403
          refine pk0 (v := .int .i64 ((mm351 : Nat) : Int)) h404 rfl fun a405 h405 => ?_; clear h404
          refine pl_nil ?_
          refine co_blockN ?_
          refine co_then ?_
          refine co_reg ?_
          refine pk0 (v := .int .i64 ((i : Nat) : Int)) h405 rfl fun a406 h406 => ?_; clear h405
          refine pk (v := .int .i64 ((i + 1 : Nat) : Int)) h406 rfl (rn_arith' rfl rfl rfl rfl rfl rfl (IntWalk.i64_in _ (by omega)) (by omega)) fun a407 h407 => ?_; clear h406
          refine pk0 (v := .int .i64 ((i + 1 : Nat) : Int)) h407 rfl fun a408 h408 => ?_; clear h407
          refine pl_nil ?_
          refine co_then ?_
          have hX409 := hX374.below hb397
          refine ⟨(200 - (i + 1)), by omega, ?_⟩
          have hsx9 := hX409
          have hal9 := hAl2
          have hB410 := hb_call hB396 hb397
          exact ⟨i + 1, mm351, u372, X373, h408.sub ⟨rfl, rfl, rfl, rfl, rfl, trivial⟩, rfl, by omega, by omega, by omega, by exact hal9, hsx9, hB410⟩
         ·
          refine pk (v := .int .i64 ((l2.length : Nat) : Int)) h345 rfl (rn_min1 rfl rfl rfl rfl (by omega)) fun a411 h411 => ?_; clear h345
          refine pk (v := subV v2 gd l2.length 4) h411 rfl (rn_sliceLH rfl rfl rfl rfl Try.underlying39 Try.sizeOf47 (hs2.below hB57) (by omega) (by omega) (by omega) (by omega)) fun a412 h412 => ?_; clear h411
          obtain ⟨mm415, hmm416⟩ : ∃ z : Nat, z = l2.length := ⟨_, rfl⟩
          have hst := all_step hAl hRO (by omega) (l2.length) (by omega)
          have hst1 : (tkF (X.map e0) gd gd ((l2.take l2.length).drop gd)).2.1 = mm415 := by rw [hmm416]; exact hst.1
          have hst2 : ∀ X' : List EntT, X'.map e0 = (tkF (X.map e0) gd gd ((l2.take l2.length).drop gd)).2.2 → AllI X' l2 mm415 := by rw [hmm416]; exact hst.2
          have hq417 : gd < mm415 ∧ mm415 ≤ l2.length := by omega
          refine pw h412 rfl (op_call (args := #[ul, .int .i64 ((gd : Nat) : Int), .int .i64 ((gd : Nat) : Int), subV v2 gd l2.length 4]) (R := fun res xw => ∃ (u : Value) (NS : List NtT), res = .tuple #[u, .int .i64 ((mm415 : Nat) : Int)] ∧ NtX xw u NS ∧ NS.map ntP = (tkF (X.map e0) gd gd ((l2.take l2.length).drop gd)).1 ∧ Below w51.heap.size w51 xw) rfl rfl rfl (by kernel_rfl) (by kernel_rfl) (Try.call43 _ _) (takeX gd gd w51 hf56 (SlX.sub ((SlX.of hs2 hok2 hRO).below hB57) (sl_sub (hs2.below hB57) _ _ (by omega) (by omega)) (fun z hz => by first | exact List.mem_of_mem_take (List.mem_of_mem_drop hz) | exact List.mem_of_mem_drop hz | exact List.mem_of_mem_take hz)) hAl.1 (by omega) (by first | (rw [List.length_drop, List.length_take]; omega) | (rw [List.length_drop]; omega)) (by omega)) (by rintro e x ⟨u, NS, h0, h⟩; rw [hst1] at h0; exact ⟨_, h0, u, NS, rfl, h⟩)) ?_; clear h412
          rintro _ w414 a413 ⟨u418, NS419, rfl, hN420, hq421, hb422⟩ h413
          have hz423 := hb422.size
          have hl424 := sl_len hN420.1
          refine pk0 (v := .tuple #[u418, .int .i64 ((mm415 : Nat) : Int)]) h413 rfl fun a425 h425 => ?_; clear h413
          refine pk0 (v := u418) h425 rfl fun a426 h426 => ?_; clear h425
          refine pk0 (v := .int .i64 ((mm415 : Nat) : Int)) h426 rfl fun a427 h427 => ?_; clear h426
          refine pk0 (v := u418) h427 rfl fun a428 h428 => ?_; clear h427
          refine pk0 (v := .int .i64 ((mm415 : Nat) : Int)) h428 rfl fun a429 h429 => ?_; clear h428
          refine pl_nil ?_
          refine co_then ?_
          refine co_seq ?_
          refine co_reg ?_
          refine pk0 (v := ul) h429 rfl fun a430 h430 => ?_; clear h429
          refine pk0 (v := u418) h430 rfl fun a431 h431 => ?_; clear h430
          have hB434 := hb_call hB57 hb422
          have hX435 := hf56.below hb422
          refine pw h431 rfl (op_call (args := #[ul, u418]) (R := fun res xw => ∃ (u : Value) (X9 : List EntT), res = .tuple #[u, .bool true] ∧ SlX xw u X9 ∧ X9.map e0 = (tkF (X.map e0) gd gd ((l2.take l2.length).drop gd)).2.2 ∧ X9.length ≤ 100 ∧ Below w414.heap.size w414 xw) rfl rfl rfl (by kernel_rfl) (by kernel_rfl) (Try.call50 _ _) (laid18_any ul X u418 NS419 (tkF (X.map e0) gd gd ((l2.take l2.length).drop gd)).2.2 w414 hX435 hN420.1 hN420.2 (by omega) (by rw [hq421]; exact rp_tk _ _ _ _)) (by rintro e x ⟨u, X, rfl, h⟩; exact ⟨_, rfl, u, X, rfl, h⟩)) ?_; clear h431
          rintro _ w433 a432 ⟨u436, X437, rfl, hX438, hK439, hx440, hb441⟩ h432
          have hz442 := hb441.size
          have hAl2 := hst2 X437 hK439
          have hgd2 := hAl2.2.2.l
          refine pk0 (v := .tuple #[u436, .bool true]) h432 rfl fun a443 h443 => ?_; clear h432
          refine pk0 (v := u436) h443 rfl fun a444 h444 => ?_; clear h443
          refine pk0 (v := .bool true) h444 rfl fun a445 h445 => ?_; clear h444
          refine pk0 (v := u436) h445 rfl fun a446 h446 => ?_; clear h445
          refine pk0 (v := .bool true) h446 rfl fun a447 h447 => ?_; clear h446
          refine pl_nil ?_
          refine co_then ?_
          refine co_seq ?_
          refine co_seq ?_
          refine co_reg ?_
          refine pk0 (v := .bool true) h447 rfl fun a448 h448 => ?_; clear h447
          refine pk0 (v := .bool false) h448 rfl fun a449 h449 => ?_; clear h448
          refine pk0 (v := .bool false) h449 rfl fun a450 h450 => ?_; clear h449
          refine pk0 (v := .int .i64 ((mm415 : Nat) : Int)) h450 rfl fun a451 h451 => ?_; clear h450
          refine pk0 (v := .int .i64 ((gd : Nat) : Int)) h451 rfl fun a452 h452 => ?_; clear h451
          refine pk0 (v := .bool (decide (((mm415 : Nat) : Int) ≤ ((gd : Nat) : Int)))) h452 rfl fun a453 h453 => ?_; clear h452
          refine pk0 (v := .bool (decide (((mm415 : Nat) : Int) ≤ ((gd : Nat) : Int)))) h453 rfl fun a454 h454 => ?_; clear h453
          refine pk0 (v := .bool (decide (((mm415 : Nat) : Int) ≤ ((gd : Nat) : Int)))) h454 rfl fun a455 h455 => ?_; clear h454
          have hc456 : (decide (((mm415 : Nat) : Int) ≤ ((gd : Nat) : Int))) = false := decide_eq_false (by omega)
          rw [hc456] at h455; clear hc456
          refine pk0 (v := u436) h455 rfl fun a457 h457 => ?_; clear h455
          have hB460 := hb_call hB434 hb441
          refine pw h457 rfl (op_call (args := #[u436]) (R := fun res xw => res = .int .i64 0 ∧ Below w433.heap.size w433 xw) rfl rfl rfl (by kernel_rfl) (by kernel_rfl) (Try.call34 _ _) (ritemRight_any u436 X437 w433 hX438.1 hX438.ok) (by rintro e x ⟨h0, h⟩; rw [hAl2.1.right] at h0; exact ⟨_, h0, rfl, h⟩)) ?_; clear h457
          rintro _ w459 a458 ⟨rfl, hb461⟩ h458
          have hz462 := hb461.size
          refine pk0 (v := .bool ((0 : Int) != 0)) h458 rfl fun a463 h463 => ?_; clear h458
          refine pk0 (v := .bool ((0 : Int) != 0)) h463 rfl fun a464 h464 => ?_; clear h463
          refine pl_nil ?_
          refine co_then ?_
          have hc465 : ((0 : Int) != 0) = false := by first | (simp; done) | (simp; omega) | exact beq_false_of_ne (by omega) | exact beq_iff_eq.2 (by omega)
          rw [hc465] at h464; clear hc465
          refine co_false h464 rfl ?_
          refine wp_skip ?_
          refine co_then ?_
          refine co_seq ?_
          refine co_reg ?_
          refine pk0 (v := u436) h464 rfl fun a466 h466 => ?_; clear h464
          refine pk0 (v := u436) h466 rfl fun a467 h467 => ?_; clear h466
          refine pl_nil ?_
          refine co_then ?_
          refine co_reg ?_
          refine pk0 (v := .int .i64 ((mm415 : Nat) : Int)) h467 rfl fun a468 h468 => ?_; clear h467
          refine pk0 (v := .int .i64 ((mm415 : Nat) : Int)) h468 rfl fun a469 h469 => ?_; clear h468
          refine pl_nil ?_
          refine co_blockN ?_
          refine co_then ?_
          refine co_reg ?_
          refine pk0 (v := .int .i64 ((i : Nat) : Int)) h469 rfl fun a470 h470 => ?_; clear h469
          refine pk (v := .int .i64 ((i + 1 : Nat) : Int)) h470 rfl (rn_arith' rfl rfl rfl rfl rfl rfl (IntWalk.i64_in _ (by omega)) (by omega)) fun a471 h471 => ?_; clear h470
          refine pk0 (v := .int .i64 ((i + 1 : Nat) : Int)) h471 rfl fun a472 h472 => ?_; clear h471
          refine pl_nil ?_
          refine co_then ?_
          have hX473 := hX438.below hb461
          refine ⟨(200 - (i + 1)), by omega, ?_⟩
          have hsx9 := hX473
          have hal9 := hAl2
          have hB474 := hb_call hB460 hb461
          exact ⟨i + 1, mm415, u436, X437, h472.sub ⟨rfl, rfl, rfl, rfl, rfl, trivial⟩, rfl, by omega, by omega, by omega, by exact hal9, hsx9, hB474⟩
    ·
     rw [hc41] at h40
     have hp475 : rightI l2 ≠ 0 := by first | simpa using hc41 | simpa [and_assoc] using hc41
     clear hc41
     refine co_true h40 rfl ?_
     refine co_seq ?_
     refine co_reg ?_
     refine pw h40 rfl (op_call (args := #[]) (R := fun res xw => res = .bool true ∧ Below w36.heap.size w36 xw) rfl rfl rfl (by kernel_rfl) (by kernel_rfl) (Try.call42 _ _) (awake18 w36) (by rintro e x ⟨rfl, h⟩; exact ⟨_, rfl, rfl, h⟩)) ?_; clear h40
     rintro _ w477 a476 ⟨rfl, hb478⟩ h476
     have hz479 := hb478.size
     refine pk0 (v := .bool true) h476 rfl fun a480 h480 => ?_; clear h476
     refine pl_nil ?_
     refine co_then ?_
     refine wp_ret ?_
     refine co_thenR ?_
     refine co_ret1 h480 rfl rfl ?_
     have hB481 := hb_call hB42 hb478
     exact ⟨rfl, hB481⟩
   ·
    rw [hc31] at h30
    have hp482 : rightI l ≠ 0 := by first | simpa using hc31 | simpa [and_assoc] using hc31
    clear hc31
    refine psk h30 rfl fun a483 h483 => ?_; clear h30
    refine psk h483 rfl fun a484 h484 => ?_; clear h483
    refine psk h484 rfl fun a485 h485 => ?_; clear h484
    refine pk0 (v := .bool true) h485 rfl fun a486 h486 => ?_; clear h485
    refine pl_nil ?_
    refine co_then ?_
    refine co_true h486 rfl ?_
    refine co_seq ?_
    refine co_reg ?_
    refine pw h486 rfl (op_call (args := #[]) (R := fun res xw => res = .bool true ∧ Below w25.heap.size w25 xw) rfl rfl rfl (by kernel_rfl) (by kernel_rfl) (Try.call42 _ _) (awake18 w25) (by rintro e x ⟨rfl, h⟩; exact ⟨_, rfl, rfl, h⟩)) ?_; clear h486
    rintro _ w488 a487 ⟨rfl, hb489⟩ h487
    have hz490 := hb489.size
    refine pk0 (v := .bool true) h487 rfl fun a491 h491 => ?_; clear h487
    refine pl_nil ?_
    refine co_then ?_
    refine wp_ret ?_
    refine co_thenR ?_
    refine co_ret1 h491 rfl rfl ?_
    have hB492 := hb_call hB32 hb489
    exact ⟨rfl, hB492⟩
  ·
   rw [hc20] at h19
   have hp493 : muchN l2 > 60 := of_decide_eq_true hc20
   clear hc20
   refine psk h19 rfl fun a494 h494 => ?_; clear h19
   refine psk h494 rfl fun a495 h495 => ?_; clear h494
   refine psk h495 rfl fun a496 h496 => ?_; clear h495
   refine pk0 (v := .bool true) h496 rfl fun a497 h497 => ?_; clear h496
   refine pk0 (v := .bool true) h497 rfl fun a498 h498 => ?_; clear h497
   refine psk h498 rfl fun a499 h499 => ?_; clear h498
   refine psk h499 rfl fun a500 h500 => ?_; clear h499
   refine psk h500 rfl fun a501 h501 => ?_; clear h500
   refine pk0 (v := .bool true) h501 rfl fun a502 h502 => ?_; clear h501
   refine pl_nil ?_
   refine co_then ?_
   refine co_true h502 rfl ?_
   refine co_seq ?_
   refine co_reg ?_
   refine pw h502 rfl (op_call (args := #[]) (R := fun res xw => res = .bool true ∧ Below w14.heap.size w14 xw) rfl rfl rfl (by kernel_rfl) (by kernel_rfl) (Try.call42 _ _) (awake18 w14) (by rintro e x ⟨rfl, h⟩; exact ⟨_, rfl, rfl, h⟩)) ?_; clear h502
   rintro _ w504 a503 ⟨rfl, hb505⟩ h503
   have hz506 := hb505.size
   refine pk0 (v := .bool true) h503 rfl fun a507 h507 => ?_; clear h503
   refine pl_nil ?_
   refine co_then ?_
   refine wp_ret ?_
   refine co_thenR ?_
   refine co_ret1 h507 rfl rfl ?_
   have hB508 := hb_call hB21 hb505
   exact ⟨rfl, hB508⟩
 ·
  rw [hc9] at h8
  have hp509 : muchN l > 60 := of_decide_eq_true hc9
  clear hc9
  refine psk h8 rfl fun a510 h510 => ?_; clear h8
  refine psk h510 rfl fun a511 h511 => ?_; clear h510
  refine psk h511 rfl fun a512 h512 => ?_; clear h511
  refine pk0 (v := .bool true) h512 rfl fun a513 h513 => ?_; clear h512
  refine pk0 (v := .bool true) h513 rfl fun a514 h514 => ?_; clear h513
  refine psk h514 rfl fun a515 h515 => ?_; clear h514
  refine psk h515 rfl fun a516 h516 => ?_; clear h515
  refine psk h516 rfl fun a517 h517 => ?_; clear h516
  refine pk0 (v := .bool true) h517 rfl fun a518 h518 => ?_; clear h517
  refine pk0 (v := .bool true) h518 rfl fun a519 h519 => ?_; clear h518
  refine psk h519 rfl fun a520 h520 => ?_; clear h519
  refine psk h520 rfl fun a521 h521 => ?_; clear h520
  refine psk h521 rfl fun a522 h522 => ?_; clear h521
  refine pk0 (v := .bool true) h522 rfl fun a523 h523 => ?_; clear h522
  refine pl_nil ?_
  refine co_then ?_
  refine co_true h523 rfl ?_
  refine co_seq ?_
  refine co_reg ?_
  refine pw h523 rfl (op_call (args := #[]) (R := fun res xw => res = .bool true ∧ Below w4.heap.size w4 xw) rfl rfl rfl (by kernel_rfl) (by kernel_rfl) (Try.call42 _ _) (awake18 w4) (by rintro e x ⟨rfl, h⟩; exact ⟨_, rfl, rfl, h⟩)) ?_; clear h523
  rintro _ w525 a524 ⟨rfl, hb526⟩ h524
  have hz527 := hb526.size
  refine pk0 (v := .bool true) h524 rfl fun a528 h528 => ?_; clear h524
  refine pl_nil ?_
  refine co_then ?_
  refine wp_ret ?_
  refine co_thenR ?_
  refine co_ret1 h528 rfl rfl ?_
  have hB529 := hb_call hB10 hb526
  exact ⟨rfl, hB529⟩
end Go.Proofs.Ythmnndbpadegnaa
