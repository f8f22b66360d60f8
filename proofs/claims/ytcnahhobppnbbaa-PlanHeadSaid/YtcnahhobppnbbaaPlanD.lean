/- The document's own plan: order. Conditions: at most 4 members, at most 1000 who join. -/
import Derived.Test.YtcnahhobppnbbaaPlanB
namespace Go.Proofs.Ytcnahhobppnbbaa
open Go.RowKit Go.PlainAid
set_option linter.unusedVariables false


theorem selA_t {lg gn : List Int} {m : MemT} (h : inL gn m.1 = false) (h2 : inL lg m.1 = true) : selA lg gn m = true := by unfold selA; rw [h, h2]; rfl
theorem selA_f {lg gn : List Int} {m : MemT} (h : inL gn m.1 = true) : selA lg gn m = false := by unfold selA; rw [h]; rfl
theorem selA_g {lg gn : List Int} {m : MemT} (h2 : inL lg m.1 = false) : selA lg gn m = false := by unfold selA; rw [h2]; simp
theorem selB_t {lg gn : List Int} {m : MemT} (h : inL gn m.1 = false) (h2 : inL lg m.1 = false) : selB lg gn m = true := by unfold selB; rw [h, h2]; rfl
theorem selB_f {lg gn : List Int} {m : MemT} (h : inL gn m.1 = true) : selB lg gn m = false := by unfold selB; rw [h]; rfl
theorem selB_g {lg gn : List Int} {m : MemT} (h2 : inL lg m.1 = true) : selB lg gn m = false := by unfold selB; rw [h2]; simp
theorem keep_end {ms : List MemT} {lg gn : List Int} {i : Nat} (h : ms.length ≤ i) : (ms.take i).filter (selA lg gn) = keepL ms lg gn ++ (ms.take 0).filter (selB lg gn) := by
  rw [List.take_of_length_le h]; simp [keepL]
theorem keepN_end {ms : List MemT} {lg gn : List Int} {i : Nat} (h : ms.length ≤ i) : ((((ms.take i).filter (selA lg gn)).length : Nat) : Int) = (((keepL ms lg gn).length : Nat) : Int) := by
  rw [List.take_of_length_le h]; rfl
theorem stay_end {ms js : List MemT} {lg gn : List Int} {j : Nat} (h : ms.length ≤ j) : keepL ms lg gn ++ (ms.take j).filter (selB lg gn) = joinL (stayL ms lg gn) (js.take 0) := by
  rw [List.take_of_length_le h]; rfl
theorem jn_y2 {acc l : List MemT} {i : Nat} {y : MemT} (h : l[i]? = some y) (h1 : hasM (joinL acc (l.take i)) y.1 = false) (h2 : chkC 1 ([(y.1, y.2)] : List MemT) = 0) (h3 : (joinL acc (l.take i)).length < 4) : joinL acc (l.take i) ++ [y] = joinL acc (l.take (i + 1)) :=
  jn_yes h (joinB_y (by omega) (by rw [← may_b]; simpa using h2) h1).symm
theorem jn_n1 {acc l : List MemT} {i : Nat} {y : MemT} (h : l[i]? = some y) (h1 : hasM (joinL acc (l.take i)) y.1 = true) : joinL acc (l.take i) = joinL acc (l.take (i + 1)) := jn_no h (joinB_3 h1).symm
theorem jn_n2 {acc l : List MemT} {i : Nat} {y : MemT} (h : l[i]? = some y) (h2 : ¬ chkC 1 ([(y.1, y.2)] : List MemT) = 0) : joinL acc (l.take i) = joinL acc (l.take (i + 1)) := jn_no h (joinB_2 (by rw [← may_b]; simpa using h2)).symm

set_option maxRecDepth 100000 in
theorem order_any (ep : Int) (mv : Value) (ms : List MemT) (fl : Int) (lv : Value) (lg : List Int) (gv : Value) (gn : List Int) (jv : Value) (js : List MemT) (w : World) (hs : SliceOf memE 2 w mv ms) (hmk : ∀ z ∈ ms, memOk z) (hlg : SliceOf (intE .i64) 1 w lv lg) (hgn : SliceOf (intE .i64) 1 w gv gn) (hjs : SliceOf memE 2 w jv js) (hjk : ∀ z ∈ js, memOk z) (hlen : ms.length ≤ 4 ∧ js.length ≤ 1000) :
    Calls Try.prog 106 #[.agg #[.int .i64 ep, mv, .int .u64 fl], lv, gv, jv] w fun e w' => ∃ (u : Value), e = .returned (.tuple #[u, .int .i64 (((keepL ms lg gn).length : Nat) : Int)]) ∧ w'.ownsRow w.heap.size 114 2 u (planL ms lg gn js).length ((planL ms lg gn js).flatMap memE) ∧ Below w.heap.size w w' := by
 have hB0 := Below.refl w.heap.size w
 have hl_hs := sl_len hs
 have hl_hlg := sl_len hlg
 have hl_hgn := sl_len hgn
 have hl_hjs := sl_len hjs
 refine co_enter (n := 108) Try.func106 rfl rfl rfl [(0, .agg #[.int .i64 ep, mv, .int .u64 fl]), (1, lv), (2, gv), (3, jv)] rfl (fun a h0 => ?_)
 refine co_seq ?_
 refine co_reg ?_
 refine pw h0 rfl (op_new (v := fun N => pt N 0) (T := 91) (cs := #[.int .i64 ep, mv, .int .u64 fl]) (by kernel_rfl) (by kernel_rfl) (by kernel_rfl)) ?_; clear h0
 rintro _ w2 a1 ⟨N3, rfl, hN6, hz7, hk5, hg4⟩ h1
 have hz8 := hg4.size
 try dsimp only at h1
 refine pk0 (v := .slice none 0 0) h1 rfl fun a9 h9 => ?_; clear h1
 refine pk0 (v := .int .i64 0) h9 rfl fun a10 h10 => ?_; clear h9
 refine pl_nil ?_
 refine co_then ?_
 refine co_seq ?_
 refine co_reg ?_
 refine pk0 (v := .slice none 0 0) h10 rfl fun a11 h11 => ?_; clear h10
 refine pl_nil ?_
 refine co_then ?_
 refine co_seq ?_
 refine co_seq ?_
 refine co_reg ?_
 refine pk0 (v := .int .i64 0) h11 rfl fun a12 h12 => ?_; clear h11
 refine pl_nil ?_
 refine co_then ?_
 refine wp_block ?_
 have h13 : Slots 108 [(0, .agg #[.int .i64 ep, mv, .int .u64 fl]), (1, lv), (2, gv), (3, jv), (4, pt N3 0), (10, .slice none 0 0), (11, .int .i64 0)] _ := h12.sub ⟨rfl, rfl, rfl, rfl, rfl, rfl, rfl, trivial⟩; clear h12
 refine co_loop (fun mm a x => ∃ (i : Nat) (u0 : Value), Slots 108 [(0, .agg #[.int .i64 ep, mv, .int .u64 fl]), (1, lv), (2, gv), (3, jv), (4, pt N3 0), (10, u0), (11, .int .i64 ((i : Nat) : Int))] a ∧ mm = ms.length - i ∧ (i ≤ ms.length) ∧ x.ownsRow (N3 + 1) 114 2 u0 ((ms.take i).filter (selA lg gn)).length (((ms.take i).filter (selA lg gn)).flatMap memE) ∧ Below w.heap.size w x ∧ Blk x N3 91 #[.int .i64 ep, mv, .int .u64 fl]) (ms.length - 0) ?_ ?_
 have hB14 := hb_new hB0 hg4
 · exact ⟨0, (.slice none 0 0), h13.sub ⟨rfl, rfl, rfl, rfl, rfl, rfl, (slot_eq rfl (congrArg (Value.int .i64) (by first | rfl | omega))), trivial⟩, rfl, by omega, (row_nilL _ _ _ _ _), hB14, hk5⟩
 · rintro k15 a16 w17 ⟨i, u0, h16, rfl, hi18, hf19, hB20, hk21⟩
   have hz22 := hB20.size
   have hl23 := hk21.lt
   have hjl := filt_take (p := selA lg gn) (l := ms) (i := i)
   refine co_seq ?_
   refine co_seq ?_
   refine co_reg ?_
   refine pk0 (v := .int .i64 ((i : Nat) : Int)) h16 rfl fun a24 h24 => ?_; clear h16
   refine pk0 (v := pt N3 1) h24 rfl fun a25 h25 => ?_; clear h24
   refine pk (v := mv) h25 rfl (rn_load1 rfl rfl Try.isAgg89 (hk21.cell rfl)) fun a26 h26 => ?_; clear h25
   refine pk (v := .int .i64 ((ms.length : Nat) : Int)) h26 rfl (rn_len rfl rfl Try.underlying89 (hs.below hB20)) fun a27 h27 => ?_; clear h26
   refine pk0 (v := .bool (decide (((i : Nat) : Int) < ((ms.length : Nat) : Int)))) h27 rfl fun a28 h28 => ?_; clear h27
   refine pl_nil ?_
   refine co_then ?_
   cases hc29 : (decide (((i : Nat) : Int) < ((ms.length : Nat) : Int)))
   ·
    rw [hc29] at h28
    have hp30 : ¬ (((i : Nat) : Int) < ((ms.length : Nat) : Int)) := of_decide_eq_false hc29
    clear hc29
    refine co_false h28 rfl ?_
    refine wp_exit ?_
    refine co_thenX ?_
    refine co_thenX ?_
    refine co_blockX ?_
    refine co_then ?_
    refine co_seq ?_
    refine co_reg ?_
    refine pk0 (v := u0) h28 rfl fun a31 h31 => ?_; clear h28
    refine pk (v := .int .i64 ((((ms.take i).filter (selA lg gn)).length : Nat) : Int)) h31 rfl (rn_lenOwn rfl rfl Try.underlying89 hf19) fun a32 h32 => ?_; clear h31
    refine pk0 (v := .int .i64 ((((ms.take i).filter (selA lg gn)).length : Nat) : Int)) h32 rfl fun a33 h33 => ?_; clear h32
    refine pl_nil ?_
    refine co_then ?_
    refine co_seq ?_
    refine co_seq ?_
    refine co_reg ?_
    refine pk0 (v := .int .i64 0) h33 rfl fun a34 h34 => ?_; clear h33
    refine pl_nil ?_
    refine co_then ?_
    refine wp_block ?_
    have h35 : Slots 108 [(0, .agg #[.int .i64 ep, mv, .int .u64 fl]), (1, lv), (2, gv), (3, jv), (4, pt N3 0), (10, u0), (13, .int .i64 ((((ms.take i).filter (selA lg gn)).length : Nat) : Int)), (14, .int .i64 0)] _ := h34.sub ⟨rfl, rfl, rfl, rfl, rfl, rfl, rfl, rfl, trivial⟩; clear h34
    refine co_loop (fun mm a x => ∃ (j : Nat) (u1 : Value), Slots 108 [(0, .agg #[.int .i64 ep, mv, .int .u64 fl]), (1, lv), (2, gv), (3, jv), (4, pt N3 0), (10, u1), (13, .int .i64 (((keepL ms lg gn).length : Nat) : Int)), (14, .int .i64 ((j : Nat) : Int))] a ∧ mm = ms.length - j ∧ (j ≤ ms.length) ∧ x.ownsRow (N3 + 1) 114 2 u1 (keepL ms lg gn ++ (ms.take j).filter (selB lg gn)).length ((keepL ms lg gn ++ (ms.take j).filter (selB lg gn)).flatMap memE) ∧ Below w.heap.size w x ∧ Blk x N3 91 #[.int .i64 ep, mv, .int .u64 fl]) (ms.length - 0) ?_ ?_
    · exact ⟨0, u0, h35.sub ⟨rfl, rfl, rfl, rfl, rfl, rfl, (slot_eq rfl (congrArg (Value.int .i64) (by first | rfl | exact keepN_end (by omega)))), (slot_eq rfl (congrArg (Value.int .i64) (by first | rfl | omega))), trivial⟩, rfl, by omega, (row_eq hf19 (by first | exact keep_end (by omega) | exact app_yes (by assumption) (selB_t (by assumption) (by assumption)) | exact app_no (by assumption) (selB_f (by assumption)) | exact app_no (by assumption) (selB_g (by assumption)))), hB20, hk21⟩
    · rintro k36 a37 w38 ⟨j, u1, h37, rfl, hi39, hf40, hB41, hk42⟩
      have hz43 := hB41.size
      have hl44 := hk42.lt
      have hjl := filt_take (p := selB lg gn) (l := ms) (i := j)
      have hjm := keep_le ms lg gn
      refine co_seq ?_
      refine co_seq ?_
      refine co_reg ?_
      refine pk0 (v := .int .i64 ((j : Nat) : Int)) h37 rfl fun a45 h45 => ?_; clear h37
      refine pk0 (v := pt N3 1) h45 rfl fun a46 h46 => ?_; clear h45
      refine pk (v := mv) h46 rfl (rn_load1 rfl rfl Try.isAgg89 (hk42.cell rfl)) fun a47 h47 => ?_; clear h46
      refine pk (v := .int .i64 ((ms.length : Nat) : Int)) h47 rfl (rn_len rfl rfl Try.underlying89 (hs.below hB41)) fun a48 h48 => ?_; clear h47
      refine pk0 (v := .bool (decide (((j : Nat) : Int) < ((ms.length : Nat) : Int)))) h48 rfl fun a49 h49 => ?_; clear h48
      refine pl_nil ?_
      refine co_then ?_
      cases hc50 : (decide (((j : Nat) : Int) < ((ms.length : Nat) : Int)))
      ·
       rw [hc50] at h49
       have hp51 : ¬ (((j : Nat) : Int) < ((ms.length : Nat) : Int)) := of_decide_eq_false hc50
       clear hc50
       refine co_false h49 rfl ?_
       refine wp_exit ?_
       refine co_thenX ?_
       refine co_thenX ?_
       refine co_blockX ?_
       refine co_then ?_
       refine co_seq ?_
       refine co_seq ?_
       refine co_reg ?_
       refine pk0 (v := .int .i64 0) h49 rfl fun a52 h52 => ?_; clear h49
       refine pl_nil ?_
       refine co_then ?_
       refine wp_block ?_
       have h53 : Slots 108 [(0, .agg #[.int .i64 ep, mv, .int .u64 fl]), (1, lv), (2, gv), (3, jv), (4, pt N3 0), (10, u1), (13, .int .i64 (((keepL ms lg gn).length : Nat) : Int)), (16, .int .i64 0)] _ := h52.sub ⟨rfl, rfl, rfl, rfl, rfl, rfl, rfl, rfl, trivial⟩; clear h52
       refine co_loop (fun mm a x => ∃ (k : Nat) (u2 : Value), Slots 108 [(0, .agg #[.int .i64 ep, mv, .int .u64 fl]), (1, lv), (2, gv), (3, jv), (4, pt N3 0), (10, u2), (13, .int .i64 (((keepL ms lg gn).length : Nat) : Int)), (16, .int .i64 ((k : Nat) : Int))] a ∧ mm = js.length - k ∧ (k ≤ js.length) ∧ x.ownsRow (N3 + 1) 114 2 u2 (joinL (stayL ms lg gn) (js.take k)).length ((joinL (stayL ms lg gn) (js.take k)).flatMap memE) ∧ Below w.heap.size w x ∧ Blk x N3 91 #[.int .i64 ep, mv, .int .u64 fl]) (js.length - 0) ?_ ?_
       · exact ⟨0, u1, h53.sub ⟨rfl, rfl, rfl, rfl, rfl, rfl, rfl, (slot_eq rfl (congrArg (Value.int .i64) (by first | rfl | omega))), trivial⟩, rfl, by omega, (row_eq hf40 (by first | exact stay_end (by omega) | exact jn_y2 (by assumption) (by assumption) (by omega) (by omega) | exact jn_n1 (by assumption) (by assumption) | exact jn_n2 (by assumption) (by omega))), hB41, hk42⟩
       · rintro k54 a55 w56 ⟨k, u2, h55, rfl, hi57, hf58, hB59, hk60⟩
         have hz61 := hB59.size
         have hl62 := hk60.lt
         have hjl := join_le (acc := stayL ms lg gn) (Nat.le_trans (stayL_le ms lg gn) hlen.1) (js.take k)
         refine co_seq ?_
         refine co_seq ?_
         refine co_reg ?_
         refine pk0 (v := .int .i64 ((k : Nat) : Int)) h55 rfl fun a63 h63 => ?_; clear h55
         refine pk0 (v := jv) h63 rfl fun a64 h64 => ?_; clear h63
         refine pk (v := .int .i64 ((js.length : Nat) : Int)) h64 rfl (rn_len rfl rfl Try.underlying89 (hjs.below hB59)) fun a65 h65 => ?_; clear h64
         refine pk0 (v := .bool (decide (((k : Nat) : Int) < ((js.length : Nat) : Int)))) h65 rfl fun a66 h66 => ?_; clear h65
         refine pk0 (v := .bool (decide (((k : Nat) : Int) < ((js.length : Nat) : Int)))) h66 rfl fun a67 h67 => ?_; clear h66
         cases hc68 : (decide (((k : Nat) : Int) < ((js.length : Nat) : Int)))
         ·
          rw [hc68] at h67
          have hp69 : ¬ (((k : Nat) : Int) < ((js.length : Nat) : Int)) := of_decide_eq_false hc68
          clear hc68
          refine psk h67 rfl fun a70 h70 => ?_; clear h67
          refine psk h70 rfl fun a71 h71 => ?_; clear h70
          refine psk h71 rfl fun a72 h72 => ?_; clear h71
          refine pk0 (v := .bool false) h72 rfl fun a73 h73 => ?_; clear h72
          refine pl_nil ?_
          refine co_then ?_
          refine co_false h73 rfl ?_
          refine wp_exit ?_
          refine co_thenX ?_
          refine co_thenX ?_
          refine co_blockX ?_
          refine co_then ?_
          refine co_seq ?_
          refine co_reg ?_
          refine pk0 (v := u2) h73 rfl fun a74 h74 => ?_; clear h73
          refine pk0 (v := .int .i64 (((keepL ms lg gn).length : Nat) : Int)) h74 rfl fun a75 h75 => ?_; clear h74
          refine pk0 (v := u2) h75 rfl fun a76 h76 => ?_; clear h75
          refine pk0 (v := .int .i64 (((keepL ms lg gn).length : Nat) : Int)) h76 rfl fun a77 h77 => ?_; clear h76
          refine pl_nil ?_
          refine co_then ?_
          refine wp_ret ?_
          refine co_ret2 h77 rfl rfl rfl ?_
          exact ⟨_, rfl, (row_eq (row_lows hf58 (by omega)) (join_end (by first | (left; omega) | (right; omega)))), hB59⟩
         ·
          rw [hc68] at h67
          have hp78 : ((k : Nat) : Int) < ((js.length : Nat) : Int) := of_decide_eq_true hc68
          clear hc68
          refine pk0 (v := u2) h67 rfl fun a79 h79 => ?_; clear h67
          refine pk (v := .int .i64 (((joinL (stayL ms lg gn) (js.take k)).length : Nat) : Int)) h79 rfl (rn_lenOwn rfl rfl Try.underlying89 hf58) fun a80 h80 => ?_; clear h79
          refine pk0 (v := .bool (decide ((((joinL (stayL ms lg gn) (js.take k)).length : Nat) : Int) < 4))) h80 rfl fun a81 h81 => ?_; clear h80
          refine pk0 (v := .bool (decide ((((joinL (stayL ms lg gn) (js.take k)).length : Nat) : Int) < 4))) h81 rfl fun a82 h82 => ?_; clear h81
          refine pl_nil ?_
          refine co_then ?_
          cases hc83 : (decide ((((joinL (stayL ms lg gn) (js.take k)).length : Nat) : Int) < 4))
          ·
           rw [hc83] at h82
           have hp84 : ¬ ((((joinL (stayL ms lg gn) (js.take k)).length : Nat) : Int) < 4) := of_decide_eq_false hc83
           clear hc83
           refine co_false h82 rfl ?_
           refine wp_exit ?_
           refine co_thenX ?_
           refine co_thenX ?_
           refine co_blockX ?_
           refine co_then ?_
           refine co_seq ?_
           refine co_reg ?_
           refine pk0 (v := u2) h82 rfl fun a85 h85 => ?_; clear h82
           refine pk0 (v := .int .i64 (((keepL ms lg gn).length : Nat) : Int)) h85 rfl fun a86 h86 => ?_; clear h85
           refine pk0 (v := u2) h86 rfl fun a87 h87 => ?_; clear h86
           refine pk0 (v := .int .i64 (((keepL ms lg gn).length : Nat) : Int)) h87 rfl fun a88 h88 => ?_; clear h87
           refine pl_nil ?_
           refine co_then ?_
           refine wp_ret ?_
           refine co_ret2 h88 rfl rfl rfl ?_
           exact ⟨_, rfl, (row_eq (row_lows hf58 (by omega)) (join_end (by first | (left; omega) | (right; omega)))), hB59⟩
          ·
           rw [hc83] at h82
           have hp89 : (((joinL (stayL ms lg gn) (js.take k)).length : Nat) : Int) < 4 := of_decide_eq_true hc83
           clear hc83
           refine co_true h82 rfl ?_
           refine wp_skip ?_
           refine co_then ?_
           refine co_seq ?_
           refine wp_block ?_
           refine co_seq ?_
           refine co_reg ?_
           refine pk0 (v := jv) h82 rfl fun a90 h90 => ?_; clear h82
           refine pk0 (v := .int .i64 ((k : Nat) : Int)) h90 rfl fun a91 h91 => ?_; clear h90
           obtain ⟨y92, hy92⟩ : ∃ z, js[k]? = some z := ⟨_, List.getElem?_eq_getElem (by first | omega | (simp; done) | (simp; omega))⟩
           have oky92 := hjk _ (List.mem_of_getElem? hy92)
           refine pk (v := pt (blkOf jv) (offOf jv + k * 2)) h91 rfl (rn_index rfl rfl rfl Try.underlying89 Try.sizeOf114 (hjs.below hB59) (by omega) (by first | omega | (simp; done) | (simp; omega))) fun a93 h93 => ?_; clear h91
           refine pk (v := .agg #[.int .i64 y92.1, .int .i64 y92.2]) h93 rfl (rn_loadN rfl rfl Try.underlying114 rfl (by kernel_rfl) (sl_at (hjs.below hB59) hy92)) fun a94 h94 => ?_; clear h93
           refine pw h94 rfl (op_new (v := fun N => pt N 0) (T := 114) (cs := #[.int .i64 0, .int .i64 0]) (by kernel_rfl) (by kernel_rfl) (by kernel_rfl)) ?_; clear h94
           rintro _ w96 a95 ⟨N97, rfl, hN100, hz101, hk99, hg98⟩ h95
           have ha102 := row_fresh hf58 hN100
           have hz103 := hg98.size
           try dsimp only at h95
           refine pwD h95 rfl (op_storeN rfl rfl rfl (by kernel_rfl) (by kernel_rfl) hk99 rfl) ?_; clear h95
           rintro _ w105 a104 ⟨hk106, hz107, hg108⟩ h104
           have hk106' : Blk w105 N97 114 #[.int .i64 y92.1, .int .i64 y92.2] := hk106; clear hk106
           have hz109 := hg108.size
           refine pl_nil ?_
           refine co_then ?_
           refine co_seq ?_
           refine co_reg ?_
           refine pk0 (v := u2) h104 rfl fun a110 h110 => ?_; clear h104
           refine pk0 (v := pt N97 0) h110 rfl fun a111 h111 => ?_; clear h110
           refine pk (v := .int .i64 y92.1) h111 rfl (rn_load1 rfl rfl Try.isAgg3 (hk106'.cell rfl)) fun a112 h112 => ?_; clear h111
           have hr115 := row_kept_new hf58 hg98
           have hr116 := row_kept_at hr115 hg108 (ha102)
           refine pw h112 rfl (op_call (args := #[u2, .int .i64 y92.1]) (R := fun res xw => res = .bool (hasM (joinL (stayL ms lg gn) (js.take k)) y92.1) ∧ Below w105.heap.size w105 xw) rfl rfl rfl (by kernel_rfl) (by kernel_rfl) (Try.call130 _ _) (has_any u2 (joinL (stayL ms lg gn) (js.take k)) y92.1 w105 (row_sl hr116 memE_len)) (by rintro e x ⟨rfl, hb117⟩; exact ⟨_, rfl, ⟨rfl, hb117⟩⟩)) ?_; clear h112
           rintro _ w114 a113 ⟨rfl, hb117⟩ h113
           have hz118 := hb117.size
           have hB120 := hb_new hB59 hg98
           have hB121 := hb_at hB120 hg108 (by omega)
           have hB122 := hb_call hB121 hb117
           have hk123 := hk60.kept hg98 (by simp)
           have hk124 := hk123.kept hg108 (by simp; omega)
           have hk125 := hk124.below hb117
           cases hc119 : (hasM (joinL (stayL ms lg gn) (js.take k)) y92.1)
           ·
            rw [hc119] at h113
            refine pk0 (v := .bool true) h113 rfl fun a126 h126 => ?_; clear h113
            refine pk0 (v := .bool true) h126 rfl fun a127 h127 => ?_; clear h126
            have hk128 := hk106'.below hb117
            refine pk (v := .agg #[.int .i64 y92.1, .int .i64 y92.2]) h127 rfl (rn_loadN rfl rfl Try.underlying114 rfl (by kernel_rfl) hk128.all) fun a129 h129 => ?_; clear h127
            refine pw h129 rfl (op_new (v := fun N => .slice (some ⟨N, 0, none⟩) 1 1) (T := 114) (cs := #[.int .i64 y92.1, .int .i64 y92.2]) (by kernel_rfl) (by kernel_rfl) (by kernel_rfl)) ?_; clear h129
            rintro _ w131 a130 ⟨N132, rfl, hN135, hz136, hk134, hg133⟩ h130
            have hr138 := row_kept_new hr116 (below_grown hb117)
            have ha137 := row_fresh hr138 hN135
            have hz139 := hg133.size
            try dsimp only at h130
            refine pk0 (v := .agg #[.int .i64 1, .slice (some ⟨N132, 0, none⟩) 1 1, .int .u64 0]) h130 rfl fun a140 h140 => ?_; clear h130
            have hr143 := row_of_cells (enc := memE) (sz := 2) ([(y92.1, y92.2)] : List MemT) hk134 (Nat.le_refl _) rfl rfl (by unfold maxLen; simp)
            refine pw h140 rfl (op_call (args := #[.agg #[.int .i64 1, .slice (some ⟨N132, 0, none⟩) 1 1, .int .u64 0]]) (R := fun res xw => res = .int .i64 (chkC 1 ([(y92.1, y92.2)] : List MemT)) ∧ Below w131.heap.size w131 xw) rfl rfl rfl (by kernel_rfl) (by kernel_rfl) (Try.call69 _ _) (wrcheck_any 1 (.slice (some ⟨N132, 0, none⟩) 1 1) ([(y92.1, y92.2)] : List MemT) 0 w131 (row_sl hr143 memE_len) (by intro z hz; simp at hz; subst hz; exact oky92) (by omega) (by omega)) (by rintro e x ⟨rfl, hb144⟩; exact ⟨_, rfl, ⟨rfl, hb144⟩⟩)) ?_; clear h140
            rintro _ w142 a141 ⟨rfl, hb144⟩ h141
            have hz145 := hb144.size
            refine pk0 (v := .bool (chkC 1 ([(y92.1, y92.2)] : List MemT) == 0)) h141 rfl fun a146 h146 => ?_; clear h141
            refine pk0 (v := .bool (chkC 1 ([(y92.1, y92.2)] : List MemT) == 0)) h146 rfl fun a147 h147 => ?_; clear h146
            refine pl_nil ?_
            refine co_then ?_
            have hB149 := hb_new hB122 hg133
            have hB150 := hb_call hB149 hb144
            have hk151 := hk125.kept hg133 (by simp)
            have hk152 := hk151.below hb144
            have hr153 := row_kept_new hr138 hg133
            have hr154 := row_kept_new hr153 (below_grown hb144)
            have hk155 := hk128.kept hg133 (by simp)
            have hk156 := hk155.below hb144
            cases hc148 : (chkC 1 ([(y92.1, y92.2)] : List MemT) == 0)
            ·
             rw [hc148] at h147
             have hp157 : ¬ (chkC 1 ([(y92.1, y92.2)] : List MemT) = 0) := by first | simpa using hc148 | simpa [and_assoc] using hc148
             clear hc148
             refine co_false h147 rfl ?_
             refine wp_skip ?_
             refine co_blockN ?_
             refine co_then ?_
             refine co_reg ?_
             refine pk0 (v := .int .i64 ((k : Nat) : Int)) h147 rfl fun a158 h158 => ?_; clear h147
             refine pk (v := .int .i64 ((k + 1 : Nat) : Int)) h158 rfl (rn_arith' rfl rfl rfl rfl rfl rfl (IntWalk.i64_in _ (by omega)) (by omega)) fun a159 h159 => ?_; clear h158
             refine pk0 (v := .int .i64 ((k + 1 : Nat) : Int)) h159 rfl fun a160 h160 => ?_; clear h159
             refine pl_nil ?_
             refine co_then ?_
             refine ⟨(js.length - (k + 1)), by omega, ?_⟩
             exact ⟨k + 1, u2, h160.sub ⟨rfl, rfl, rfl, rfl, rfl, rfl, rfl, rfl, trivial⟩, rfl, by omega, (row_eq hr154 (by first | exact stay_end (by omega) | exact jn_y2 (by assumption) (by assumption) (by omega) (by omega) | exact jn_n1 (by assumption) (by assumption) | exact jn_n2 (by assumption) (by omega))), hB150, hk152⟩
            ·
             rw [hc148] at h147
             have hp161 : chkC 1 ([(y92.1, y92.2)] : List MemT) = 0 := by first | simpa using hc148 | simpa [and_assoc] using hc148
             clear hc148
             refine co_true h147 rfl ?_
             refine co_reg ?_
             refine pk0 (v := u2) h147 rfl fun a162 h162 => ?_; clear h147
             refine pk (v := .agg #[.int .i64 y92.1, .int .i64 y92.2]) h162 rfl (rn_loadN rfl rfl Try.underlying114 rfl (by kernel_rfl) hk156.all) fun a163 h163 => ?_; clear h162
             refine pw h163 rfl (op_new (v := fun N => .slice (some ⟨N, 0, none⟩) 1 1) (T := 114) (cs := #[.int .i64 y92.1, .int .i64 y92.2]) (by kernel_rfl) (by kernel_rfl) (by kernel_rfl)) ?_; clear h163
             rintro _ w165 a164 ⟨N166, rfl, hN169, hz170, hk168, hg167⟩ h164
             have ha171 := row_fresh hr154 hN169
             have hr173 := row_kept_new hr143 (below_grown hb144)
             have ha172 := row_fresh hr173 hN169
             have hz174 := hg167.size
             try dsimp only at h164
             have hr181 := row_kept_new hr154 hg167
             refine pw h164 rfl (op_append rfl (N3 + 1) 114 (z := .agg #[.int .i64 0, .int .i64 0]) (size := 2) (bytes := 16) Try.underlying89 (by kernel_rfl) rfl rfl rfl hr181 rfl hk168 rfl (by kernel_rfl) (by first | omega | (simp only [List.length_nil, List.length_append, List.length_cons, List.length_take, List.length_drop]; omega)) (by first | omega | (simp only [List.length_nil, List.length_append, List.length_cons, List.length_take, List.length_drop]; omega)) (by omega)) ?_; clear h164
             rintro v177 w176 a175 ⟨hr178, hg179⟩ h175
             have hr178' : w176.ownsRow (N3 + 1) 114 2 v177 ((joinL (stayL ms lg gn) (js.take k) ++ [(y92.1, y92.2)]).length) ((joinL (stayL ms lg gn) (js.take k) ++ [(y92.1, y92.2)]).flatMap memE) := row_push (y := (y92.1, y92.2)) hr178 rfl rfl; clear hr178
             have hz182 := hg179.size
             refine pk0 (v := v177) h175 rfl fun a183 h183 => ?_; clear h175
             refine pl_nil ?_
             refine co_blockN ?_
             refine co_then ?_
             refine co_reg ?_
             refine pk0 (v := .int .i64 ((k : Nat) : Int)) h183 rfl fun a184 h184 => ?_; clear h183
             refine pk (v := .int .i64 ((k + 1 : Nat) : Int)) h184 rfl (rn_arith' rfl rfl rfl rfl rfl rfl (IntWalk.i64_in _ (by omega)) (by omega)) fun a185 h185 => ?_; clear h184
             refine pk0 (v := .int .i64 ((k + 1 : Nat) : Int)) h185 rfl fun a186 h186 => ?_; clear h185
             refine pl_nil ?_
             refine co_then ?_
             refine ⟨(js.length - (k + 1)), by omega, ?_⟩
             have hB187 := hb_new hB150 hg167
             have hB188 := hb_row hB187 hr181 (by omega) hg179
             have hk189 := hk152.kept hg167 (by simp)
             have hk190 := hk189.kept hg179 (row_ne_lt hr181 (by omega))
             exact ⟨k + 1, v177, h186.sub ⟨rfl, rfl, rfl, rfl, rfl, rfl, rfl, rfl, trivial⟩, rfl, by omega, (row_eq hr178' (by first | exact stay_end (by omega) | exact jn_y2 (by assumption) (by assumption) (by omega) (by omega) | exact jn_n1 (by assumption) (by assumption) | exact jn_n2 (by assumption) (by omega))), hB188, hk190⟩
           ·
            rw [hc119] at h113
            refine pk0 (v := .bool false) h113 rfl fun a191 h191 => ?_; clear h113
            refine pk0 (v := .bool false) h191 rfl fun a192 h192 => ?_; clear h191
            refine psk h192 rfl fun a193 h193 => ?_; clear h192
            refine psk h193 rfl fun a194 h194 => ?_; clear h193
            refine psk h194 rfl fun a195 h195 => ?_; clear h194
            refine psk h195 rfl fun a196 h196 => ?_; clear h195
            refine psk h196 rfl fun a197 h197 => ?_; clear h196
            refine pk0 (v := .bool false) h197 rfl fun a198 h198 => ?_; clear h197
            refine pl_nil ?_
            refine co_then ?_
            refine co_false h198 rfl ?_
            refine wp_skip ?_
            refine co_blockN ?_
            refine co_then ?_
            refine co_reg ?_
            refine pk0 (v := .int .i64 ((k : Nat) : Int)) h198 rfl fun a199 h199 => ?_; clear h198
            refine pk (v := .int .i64 ((k + 1 : Nat) : Int)) h199 rfl (rn_arith' rfl rfl rfl rfl rfl rfl (IntWalk.i64_in _ (by omega)) (by omega)) fun a200 h200 => ?_; clear h199
            refine pk0 (v := .int .i64 ((k + 1 : Nat) : Int)) h200 rfl fun a201 h201 => ?_; clear h200
            refine pl_nil ?_
            refine co_then ?_
            refine ⟨(js.length - (k + 1)), by omega, ?_⟩
            have hr202 := row_kept_new hr116 (below_grown hb117)
            exact ⟨k + 1, u2, h201.sub ⟨rfl, rfl, rfl, rfl, rfl, rfl, rfl, rfl, trivial⟩, rfl, by omega, (row_eq hr202 (by first | exact stay_end (by omega) | exact jn_y2 (by assumption) (by assumption) (by omega) (by omega) | exact jn_n1 (by assumption) (by assumption) | exact jn_n2 (by assumption) (by omega))), hB122, hk125⟩
      ·
       rw [hc50] at h49
       have hp203 : ((j : Nat) : Int) < ((ms.length : Nat) : Int) := of_decide_eq_true hc50
       clear hc50
       refine co_true h49 rfl ?_
       refine wp_skip ?_
       refine co_then ?_
       refine co_seq ?_
       refine wp_block ?_
       refine co_seq ?_
       refine co_reg ?_
       refine pk0 (v := pt N3 1) h49 rfl fun a204 h204 => ?_; clear h49
       refine pk (v := mv) h204 rfl (rn_load1 rfl rfl Try.isAgg89 (hk42.cell rfl)) fun a205 h205 => ?_; clear h204
       refine pk0 (v := .int .i64 ((j : Nat) : Int)) h205 rfl fun a206 h206 => ?_; clear h205
       obtain ⟨y207, hy207⟩ : ∃ z, ms[j]? = some z := ⟨_, List.getElem?_eq_getElem (by first | omega | (simp; done) | (simp; omega))⟩
       have oky207 := hmk _ (List.mem_of_getElem? hy207)
       refine pk (v := pt (blkOf mv) (offOf mv + j * 2)) h206 rfl (rn_index rfl rfl rfl Try.underlying89 Try.sizeOf114 (hs.below hB41) (by omega) (by first | omega | (simp; done) | (simp; omega))) fun a208 h208 => ?_; clear h206
       refine pk (v := .agg #[.int .i64 y207.1, .int .i64 y207.2]) h208 rfl (rn_loadN rfl rfl Try.underlying114 rfl (by kernel_rfl) (sl_at (hs.below hB41) hy207)) fun a209 h209 => ?_; clear h208
       refine pw h209 rfl (op_new (v := fun N => pt N 0) (T := 114) (cs := #[.int .i64 0, .int .i64 0]) (by kernel_rfl) (by kernel_rfl) (by kernel_rfl)) ?_; clear h209
       rintro _ w211 a210 ⟨N212, rfl, hN215, hz216, hk214, hg213⟩ h210
       have ha217 := row_fresh hf40 hN215
       have hz218 := hg213.size
       try dsimp only at h210
       refine pwD h210 rfl (op_storeN rfl rfl rfl (by kernel_rfl) (by kernel_rfl) hk214 rfl) ?_; clear h210
       rintro _ w220 a219 ⟨hk221, hz222, hg223⟩ h219
       have hk221' : Blk w220 N212 114 #[.int .i64 y207.1, .int .i64 y207.2] := hk221; clear hk221
       have hz224 := hg223.size
       refine pl_nil ?_
       refine co_then ?_
       refine co_seq ?_
       refine co_reg ?_
       refine pk0 (v := gv) h219 rfl fun a225 h225 => ?_; clear h219
       refine pk0 (v := pt N212 0) h225 rfl fun a226 h226 => ?_; clear h225
       refine pk (v := .int .i64 y207.1) h226 rfl (rn_load1 rfl rfl Try.isAgg3 (hk221'.cell rfl)) fun a227 h227 => ?_; clear h226
       have hB230 := hb_new hB41 hg213
       have hB231 := hb_at hB230 hg223 (by omega)
       refine pw h227 rfl (op_call (args := #[gv, .int .i64 y207.1]) (R := fun res xw => res = .bool (inL gn y207.1) ∧ Below w220.heap.size w220 xw) rfl rfl rfl (by kernel_rfl) (by kernel_rfl) (Try.call70 _ _) (in_any gv gn y207.1 w220 (hgn.below hB231)) (by rintro e x ⟨rfl, hb232⟩; exact ⟨_, rfl, ⟨rfl, hb232⟩⟩)) ?_; clear h227
       rintro _ w229 a228 ⟨rfl, hb232⟩ h228
       have hz233 := hb232.size
       have hB235 := hb_call hB231 hb232
       have hk236 := hk42.kept hg213 (by simp)
       have hk237 := hk236.kept hg223 (by simp; omega)
       have hk238 := hk237.below hb232
       have hr239 := row_kept_new hf40 hg213
       have hr240 := row_kept_at hr239 hg223 (ha217)
       have hr241 := row_kept_new hr240 (below_grown hb232)
       cases hc234 : (inL gn y207.1)
       ·
        rw [hc234] at h228
        refine pk0 (v := .bool true) h228 rfl fun a242 h242 => ?_; clear h228
        refine pk0 (v := .bool true) h242 rfl fun a243 h243 => ?_; clear h242
        refine pk0 (v := lv) h243 rfl fun a244 h244 => ?_; clear h243
        refine pk0 (v := pt N212 0) h244 rfl fun a245 h245 => ?_; clear h244
        have hk246 := hk221'.below hb232
        refine pk (v := .int .i64 y207.1) h245 rfl (rn_load1 rfl rfl Try.isAgg3 (hk246.cell rfl)) fun a247 h247 => ?_; clear h245
        refine pw h247 rfl (op_call (args := #[lv, .int .i64 y207.1]) (R := fun res xw => res = .bool (inL lg y207.1) ∧ Below w229.heap.size w229 xw) rfl rfl rfl (by kernel_rfl) (by kernel_rfl) (Try.call70 _ _) (in_any lv lg y207.1 w229 (hlg.below hB235)) (by rintro e x ⟨rfl, hb250⟩; exact ⟨_, rfl, ⟨rfl, hb250⟩⟩)) ?_; clear h247
        rintro _ w249 a248 ⟨rfl, hb250⟩ h248
        have hz251 := hb250.size
        have hB253 := hb_call hB235 hb250
        cases hc252 : (inL lg y207.1)
        ·
         rw [hc252] at h248
         refine pk0 (v := .bool true) h248 rfl fun a254 h254 => ?_; clear h248
         refine pk0 (v := .bool true) h254 rfl fun a255 h255 => ?_; clear h254
         refine pl_nil ?_
         refine co_then ?_
         refine co_true h255 rfl ?_
         refine co_reg ?_
         refine pk0 (v := u1) h255 rfl fun a256 h256 => ?_; clear h255
         have hk257 := hk246.below hb250
         refine pk (v := .agg #[.int .i64 y207.1, .int .i64 y207.2]) h256 rfl (rn_loadN rfl rfl Try.underlying114 rfl (by kernel_rfl) hk257.all) fun a258 h258 => ?_; clear h256
         refine pw h258 rfl (op_new (v := fun N => .slice (some ⟨N, 0, none⟩) 1 1) (T := 114) (cs := #[.int .i64 y207.1, .int .i64 y207.2]) (by kernel_rfl) (by kernel_rfl) (by kernel_rfl)) ?_; clear h258
         rintro _ w260 a259 ⟨N261, rfl, hN264, hz265, hk263, hg262⟩ h259
         have hr267 := row_kept_new hr241 (below_grown hb250)
         have ha266 := row_fresh hr267 hN264
         have hz268 := hg262.size
         try dsimp only at h259
         have hr275 := row_kept_new hr267 hg262
         refine pw h259 rfl (op_append rfl (N3 + 1) 114 (z := .agg #[.int .i64 0, .int .i64 0]) (size := 2) (bytes := 16) Try.underlying89 (by kernel_rfl) rfl rfl rfl hr275 rfl hk263 rfl (by kernel_rfl) (by first | omega | (simp only [List.length_nil, List.length_append, List.length_cons, List.length_take, List.length_drop]; omega)) (by first | omega | (simp only [List.length_nil, List.length_append, List.length_cons, List.length_take, List.length_drop]; omega)) (by omega)) ?_; clear h259
         rintro v271 w270 a269 ⟨hr272, hg273⟩ h269
         have hr272' : w270.ownsRow (N3 + 1) 114 2 v271 ((keepL ms lg gn ++ (ms.take j).filter (selB lg gn) ++ [(y207.1, y207.2)]).length) ((keepL ms lg gn ++ (ms.take j).filter (selB lg gn) ++ [(y207.1, y207.2)]).flatMap memE) := row_push (y := (y207.1, y207.2)) hr272 rfl rfl; clear hr272
         have hz276 := hg273.size
         refine pk0 (v := v271) h269 rfl fun a277 h277 => ?_; clear h269
         refine pl_nil ?_
         refine co_blockN ?_
         refine co_then ?_
         refine co_reg ?_
         refine pk0 (v := .int .i64 ((j : Nat) : Int)) h277 rfl fun a278 h278 => ?_; clear h277
         refine pk (v := .int .i64 ((j + 1 : Nat) : Int)) h278 rfl (rn_arith' rfl rfl rfl rfl rfl rfl (IntWalk.i64_in _ (by omega)) (by omega)) fun a279 h279 => ?_; clear h278
         refine pk0 (v := .int .i64 ((j + 1 : Nat) : Int)) h279 rfl fun a280 h280 => ?_; clear h279
         refine pl_nil ?_
         refine co_then ?_
         refine ⟨(ms.length - (j + 1)), by omega, ?_⟩
         have hB281 := hb_new hB253 hg262
         have hB282 := hb_row hB281 hr275 (by omega) hg273
         have hk283 := hk238.below hb250
         have hk284 := hk283.kept hg262 (by simp)
         have hk285 := hk284.kept hg273 (row_ne_lt hr275 (by omega))
         exact ⟨j + 1, v271, h280.sub ⟨rfl, rfl, rfl, rfl, rfl, rfl, rfl, rfl, trivial⟩, rfl, by omega, (row_eq hr272' (by first | exact keep_end (by omega) | exact app_yes (by assumption) (selB_t (by assumption) (by assumption)) | exact app_no (by assumption) (selB_f (by assumption)) | exact app_no (by assumption) (selB_g (by assumption)))), hB282, hk285⟩
        ·
         rw [hc252] at h248
         refine pk0 (v := .bool false) h248 rfl fun a286 h286 => ?_; clear h248
         refine pk0 (v := .bool false) h286 rfl fun a287 h287 => ?_; clear h286
         refine pl_nil ?_
         refine co_then ?_
         refine co_false h287 rfl ?_
         refine wp_skip ?_
         refine co_blockN ?_
         refine co_then ?_
         refine co_reg ?_
         refine pk0 (v := .int .i64 ((j : Nat) : Int)) h287 rfl fun a288 h288 => ?_; clear h287
         refine pk (v := .int .i64 ((j + 1 : Nat) : Int)) h288 rfl (rn_arith' rfl rfl rfl rfl rfl rfl (IntWalk.i64_in _ (by omega)) (by omega)) fun a289 h289 => ?_; clear h288
         refine pk0 (v := .int .i64 ((j + 1 : Nat) : Int)) h289 rfl fun a290 h290 => ?_; clear h289
         refine pl_nil ?_
         refine co_then ?_
         refine ⟨(ms.length - (j + 1)), by omega, ?_⟩
         have hr291 := row_kept_new hr241 (below_grown hb250)
         have hk292 := hk238.below hb250
         exact ⟨j + 1, u1, h290.sub ⟨rfl, rfl, rfl, rfl, rfl, rfl, rfl, rfl, trivial⟩, rfl, by omega, (row_eq hr291 (by first | exact keep_end (by omega) | exact app_yes (by assumption) (selB_t (by assumption) (by assumption)) | exact app_no (by assumption) (selB_f (by assumption)) | exact app_no (by assumption) (selB_g (by assumption)))), hB253, hk292⟩
       ·
        rw [hc234] at h228
        refine pk0 (v := .bool false) h228 rfl fun a293 h293 => ?_; clear h228
        refine pk0 (v := .bool false) h293 rfl fun a294 h294 => ?_; clear h293
        refine psk h294 rfl fun a295 h295 => ?_; clear h294
        refine psk h295 rfl fun a296 h296 => ?_; clear h295
        refine psk h296 rfl fun a297 h297 => ?_; clear h296
        refine psk h297 rfl fun a298 h298 => ?_; clear h297
        refine psk h298 rfl fun a299 h299 => ?_; clear h298
        refine pk0 (v := .bool false) h299 rfl fun a300 h300 => ?_; clear h299
        refine pl_nil ?_
        refine co_then ?_
        refine co_false h300 rfl ?_
        refine wp_skip ?_
        refine co_blockN ?_
        refine co_then ?_
        refine co_reg ?_
        refine pk0 (v := .int .i64 ((j : Nat) : Int)) h300 rfl fun a301 h301 => ?_; clear h300
        refine pk (v := .int .i64 ((j + 1 : Nat) : Int)) h301 rfl (rn_arith' rfl rfl rfl rfl rfl rfl (IntWalk.i64_in _ (by omega)) (by omega)) fun a302 h302 => ?_; clear h301
        refine pk0 (v := .int .i64 ((j + 1 : Nat) : Int)) h302 rfl fun a303 h303 => ?_; clear h302
        refine pl_nil ?_
        refine co_then ?_
        refine ⟨(ms.length - (j + 1)), by omega, ?_⟩
        exact ⟨j + 1, u1, h303.sub ⟨rfl, rfl, rfl, rfl, rfl, rfl, rfl, rfl, trivial⟩, rfl, by omega, (row_eq hr241 (by first | exact keep_end (by omega) | exact app_yes (by assumption) (selB_t (by assumption) (by assumption)) | exact app_no (by assumption) (selB_f (by assumption)) | exact app_no (by assumption) (selB_g (by assumption)))), hB235, hk238⟩
   ·
    rw [hc29] at h28
    have hp304 : ((i : Nat) : Int) < ((ms.length : Nat) : Int) := of_decide_eq_true hc29
    clear hc29
    refine co_true h28 rfl ?_
    refine wp_skip ?_
    refine co_then ?_
    refine co_seq ?_
    refine wp_block ?_
    refine co_seq ?_
    refine co_reg ?_
    refine pk0 (v := pt N3 1) h28 rfl fun a305 h305 => ?_; clear h28
    refine pk (v := mv) h305 rfl (rn_load1 rfl rfl Try.isAgg89 (hk21.cell rfl)) fun a306 h306 => ?_; clear h305
    refine pk0 (v := .int .i64 ((i : Nat) : Int)) h306 rfl fun a307 h307 => ?_; clear h306
    obtain ⟨y308, hy308⟩ : ∃ z, ms[i]? = some z := ⟨_, List.getElem?_eq_getElem (by first | omega | (simp; done) | (simp; omega))⟩
    have oky308 := hmk _ (List.mem_of_getElem? hy308)
    refine pk (v := pt (blkOf mv) (offOf mv + i * 2)) h307 rfl (rn_index rfl rfl rfl Try.underlying89 Try.sizeOf114 (hs.below hB20) (by omega) (by first | omega | (simp; done) | (simp; omega))) fun a309 h309 => ?_; clear h307
    refine pk (v := .agg #[.int .i64 y308.1, .int .i64 y308.2]) h309 rfl (rn_loadN rfl rfl Try.underlying114 rfl (by kernel_rfl) (sl_at (hs.below hB20) hy308)) fun a310 h310 => ?_; clear h309
    refine pw h310 rfl (op_new (v := fun N => pt N 0) (T := 114) (cs := #[.int .i64 0, .int .i64 0]) (by kernel_rfl) (by kernel_rfl) (by kernel_rfl)) ?_; clear h310
    rintro _ w312 a311 ⟨N313, rfl, hN316, hz317, hk315, hg314⟩ h311
    have ha318 := row_fresh hf19 hN316
    have hz319 := hg314.size
    try dsimp only at h311
    refine pwD h311 rfl (op_storeN rfl rfl rfl (by kernel_rfl) (by kernel_rfl) hk315 rfl) ?_; clear h311
    rintro _ w321 a320 ⟨hk322, hz323, hg324⟩ h320
    have hk322' : Blk w321 N313 114 #[.int .i64 y308.1, .int .i64 y308.2] := hk322; clear hk322
    have hz325 := hg324.size
    refine pl_nil ?_
    refine co_then ?_
    refine co_seq ?_
    refine co_reg ?_
    refine pk0 (v := gv) h320 rfl fun a326 h326 => ?_; clear h320
    refine pk0 (v := pt N313 0) h326 rfl fun a327 h327 => ?_; clear h326
    refine pk (v := .int .i64 y308.1) h327 rfl (rn_load1 rfl rfl Try.isAgg3 (hk322'.cell rfl)) fun a328 h328 => ?_; clear h327
    have hB331 := hb_new hB20 hg314
    have hB332 := hb_at hB331 hg324 (by omega)
    refine pw h328 rfl (op_call (args := #[gv, .int .i64 y308.1]) (R := fun res xw => res = .bool (inL gn y308.1) ∧ Below w321.heap.size w321 xw) rfl rfl rfl (by kernel_rfl) (by kernel_rfl) (Try.call70 _ _) (in_any gv gn y308.1 w321 (hgn.below hB332)) (by rintro e x ⟨rfl, hb333⟩; exact ⟨_, rfl, ⟨rfl, hb333⟩⟩)) ?_; clear h328
    rintro _ w330 a329 ⟨rfl, hb333⟩ h329
    have hz334 := hb333.size
    have hB336 := hb_call hB332 hb333
    have hk337 := hk21.kept hg314 (by simp)
    have hk338 := hk337.kept hg324 (by simp; omega)
    have hk339 := hk338.below hb333
    have hr340 := row_kept_new hf19 hg314
    have hr341 := row_kept_at hr340 hg324 (ha318)
    have hr342 := row_kept_new hr341 (below_grown hb333)
    cases hc335 : (inL gn y308.1)
    ·
     rw [hc335] at h329
     refine pk0 (v := .bool true) h329 rfl fun a343 h343 => ?_; clear h329
     refine pk0 (v := .bool true) h343 rfl fun a344 h344 => ?_; clear h343
     refine pk0 (v := lv) h344 rfl fun a345 h345 => ?_; clear h344
     refine pk0 (v := pt N313 0) h345 rfl fun a346 h346 => ?_; clear h345
     have hk347 := hk322'.below hb333
     refine pk (v := .int .i64 y308.1) h346 rfl (rn_load1 rfl rfl Try.isAgg3 (hk347.cell rfl)) fun a348 h348 => ?_; clear h346
     refine pw h348 rfl (op_call (args := #[lv, .int .i64 y308.1]) (R := fun res xw => res = .bool (inL lg y308.1) ∧ Below w330.heap.size w330 xw) rfl rfl rfl (by kernel_rfl) (by kernel_rfl) (Try.call70 _ _) (in_any lv lg y308.1 w330 (hlg.below hB336)) (by rintro e x ⟨rfl, hb351⟩; exact ⟨_, rfl, ⟨rfl, hb351⟩⟩)) ?_; clear h348
     rintro _ w350 a349 ⟨rfl, hb351⟩ h349
     have hz352 := hb351.size
     refine pk0 (v := .bool (inL lg y308.1)) h349 rfl fun a353 h353 => ?_; clear h349
     refine pl_nil ?_
     refine co_then ?_
     have hB355 := hb_call hB336 hb351
     cases hc354 : (inL lg y308.1)
     ·
      rw [hc354] at h353
      refine co_false h353 rfl ?_
      refine wp_skip ?_
      refine co_blockN ?_
      refine co_then ?_
      refine co_reg ?_
      refine pk0 (v := .int .i64 ((i : Nat) : Int)) h353 rfl fun a356 h356 => ?_; clear h353
      refine pk (v := .int .i64 ((i + 1 : Nat) : Int)) h356 rfl (rn_arith' rfl rfl rfl rfl rfl rfl (IntWalk.i64_in _ (by omega)) (by omega)) fun a357 h357 => ?_; clear h356
      refine pk0 (v := .int .i64 ((i + 1 : Nat) : Int)) h357 rfl fun a358 h358 => ?_; clear h357
      refine pl_nil ?_
      refine co_then ?_
      refine ⟨(ms.length - (i + 1)), by omega, ?_⟩
      have hr359 := row_kept_new hr342 (below_grown hb351)
      have hk360 := hk339.below hb351
      exact ⟨i + 1, u0, h358.sub ⟨rfl, rfl, rfl, rfl, rfl, rfl, rfl, trivial⟩, rfl, by omega, (row_eq hr359 (by first | rfl | exact filt_yes (by assumption) (selA_t (by assumption) (by assumption)) | exact filt_no (by assumption) (selA_f (by assumption)) | exact filt_no (by assumption) (selA_g (by assumption)))), hB355, hk360⟩
     ·
      rw [hc354] at h353
      refine co_true h353 rfl ?_
      refine co_reg ?_
      refine pk0 (v := u0) h353 rfl fun a361 h361 => ?_; clear h353
      have hk362 := hk347.below hb351
      refine pk (v := .agg #[.int .i64 y308.1, .int .i64 y308.2]) h361 rfl (rn_loadN rfl rfl Try.underlying114 rfl (by kernel_rfl) hk362.all) fun a363 h363 => ?_; clear h361
      refine pw h363 rfl (op_new (v := fun N => .slice (some ⟨N, 0, none⟩) 1 1) (T := 114) (cs := #[.int .i64 y308.1, .int .i64 y308.2]) (by kernel_rfl) (by kernel_rfl) (by kernel_rfl)) ?_; clear h363
      rintro _ w365 a364 ⟨N366, rfl, hN369, hz370, hk368, hg367⟩ h364
      have hr372 := row_kept_new hr342 (below_grown hb351)
      have ha371 := row_fresh hr372 hN369
      have hz373 := hg367.size
      try dsimp only at h364
      have hr380 := row_kept_new hr372 hg367
      refine pw h364 rfl (op_append rfl (N3 + 1) 114 (z := .agg #[.int .i64 0, .int .i64 0]) (size := 2) (bytes := 16) Try.underlying89 (by kernel_rfl) rfl rfl rfl hr380 rfl hk368 rfl (by kernel_rfl) (by first | omega | (simp only [List.length_nil, List.length_append, List.length_cons, List.length_take, List.length_drop]; omega)) (by first | omega | (simp only [List.length_nil, List.length_append, List.length_cons, List.length_take, List.length_drop]; omega)) (by omega)) ?_; clear h364
      rintro v376 w375 a374 ⟨hr377, hg378⟩ h374
      have hr377' : w375.ownsRow (N3 + 1) 114 2 v376 (((ms.take i).filter (selA lg gn) ++ [(y308.1, y308.2)]).length) (((ms.take i).filter (selA lg gn) ++ [(y308.1, y308.2)]).flatMap memE) := row_push (y := (y308.1, y308.2)) hr377 rfl rfl; clear hr377
      have hz381 := hg378.size
      refine pk0 (v := v376) h374 rfl fun a382 h382 => ?_; clear h374
      refine pl_nil ?_
      refine co_blockN ?_
      refine co_then ?_
      refine co_reg ?_
      refine pk0 (v := .int .i64 ((i : Nat) : Int)) h382 rfl fun a383 h383 => ?_; clear h382
      refine pk (v := .int .i64 ((i + 1 : Nat) : Int)) h383 rfl (rn_arith' rfl rfl rfl rfl rfl rfl (IntWalk.i64_in _ (by omega)) (by omega)) fun a384 h384 => ?_; clear h383
      refine pk0 (v := .int .i64 ((i + 1 : Nat) : Int)) h384 rfl fun a385 h385 => ?_; clear h384
      refine pl_nil ?_
      refine co_then ?_
      refine ⟨(ms.length - (i + 1)), by omega, ?_⟩
      have hB386 := hb_new hB355 hg367
      have hB387 := hb_row hB386 hr380 (by omega) hg378
      have hk388 := hk339.below hb351
      have hk389 := hk388.kept hg367 (by simp)
      have hk390 := hk389.kept hg378 (row_ne_lt hr380 (by omega))
      exact ⟨i + 1, v376, h385.sub ⟨rfl, rfl, rfl, rfl, rfl, rfl, rfl, trivial⟩, rfl, by omega, (row_eq hr377' (by first | rfl | exact filt_yes (by assumption) (selA_t (by assumption) (by assumption)) | exact filt_no (by assumption) (selA_f (by assumption)) | exact filt_no (by assumption) (selA_g (by assumption)))), hB387, hk390⟩
    ·
     rw [hc335] at h329
     refine pk0 (v := .bool false) h329 rfl fun a391 h391 => ?_; clear h329
     refine pk0 (v := .bool false) h391 rfl fun a392 h392 => ?_; clear h391
     refine psk h392 rfl fun a393 h393 => ?_; clear h392
     refine psk h393 rfl fun a394 h394 => ?_; clear h393
     refine psk h394 rfl fun a395 h395 => ?_; clear h394
     refine psk h395 rfl fun a396 h396 => ?_; clear h395
     refine pk0 (v := .bool false) h396 rfl fun a397 h397 => ?_; clear h396
     refine pl_nil ?_
     refine co_then ?_
     refine co_false h397 rfl ?_
     refine wp_skip ?_
     refine co_blockN ?_
     refine co_then ?_
     refine co_reg ?_
     refine pk0 (v := .int .i64 ((i : Nat) : Int)) h397 rfl fun a398 h398 => ?_; clear h397
     refine pk (v := .int .i64 ((i + 1 : Nat) : Int)) h398 rfl (rn_arith' rfl rfl rfl rfl rfl rfl (IntWalk.i64_in _ (by omega)) (by omega)) fun a399 h399 => ?_; clear h398
     refine pk0 (v := .int .i64 ((i + 1 : Nat) : Int)) h399 rfl fun a400 h400 => ?_; clear h399
     refine pl_nil ?_
     refine co_then ?_
     refine ⟨(ms.length - (i + 1)), by omega, ?_⟩
     exact ⟨i + 1, u0, h400.sub ⟨rfl, rfl, rfl, rfl, rfl, rfl, rfl, trivial⟩, rfl, by omega, (row_eq hr342 (by first | rfl | exact filt_yes (by assumption) (selA_t (by assumption) (by assumption)) | exact filt_no (by assumption) (selA_f (by assumption)) | exact filt_no (by assumption) (selA_g (by assumption)))), hB336, hk339⟩
end Go.Proofs.Ytcnahhobppnbbaa
