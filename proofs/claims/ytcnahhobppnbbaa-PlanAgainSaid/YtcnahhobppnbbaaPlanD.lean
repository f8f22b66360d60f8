/- The document's own plan: order. Conditions: at most 4 members, at most 1000 who join. -/
import Derived.Test.YtcnahhobppnbbaaPlanB
namespace Go.Proofs.Ytcnahhobppnbbaa
open Go.RowKit Go.PlainAid
set_option linter.unusedVariables false

set_option linter.all false

theorem selA_t {lg gn : List Int} {m : MemT} (h : inL gn m.1 = false) (h2 : inL lg m.1 = true) : selA lg gn m = true := by unfold selA; rw [h, h2]; rfl
theorem selA_f {lg gn : List Int} {m : MemT} (h : inL gn m.1 = true) : selA lg gn m = false := by unfold selA; rw [h]; rfl
theorem selA_g {lg gn : List Int} {m : MemT} (h2 : inL lg m.1 = false) : selA lg gn m = false := by unfold selA; rw [h2]; simp
theorem selB_t {lg gn : List Int} {m : MemT} (h : inL gn m.1 = false) (h2 : inL lg m.1 = false) : selB lg gn m = true := by unfold selB; rw [h, h2]; rfl
theorem selB_f {lg gn : List Int} {m : MemT} (h : inL gn m.1 = true) : selB lg gn m = false := by unfold selB; rw [h]; rfl
theorem selB_g {lg gn : List Int} {m : MemT} (h2 : inL lg m.1 = true) : selB lg gn m = false := by unfold selB; rw [h2]; simp
theorem keep_end {ms : List MemT} {lg gn : List Int} {i : Nat} (h : ms.length ≤ i) : (ms.take i).filter (selA lg gn) = keepL ms lg gn ++ (ms.take 0).filter (selB lg gn) := by
  rw [List.take_of_length_le h]; simp [keepL]
theorem keepN_end {ms : List MemT} {lg gn : List Int} {i : Nat} (h : ms.length ≤ i) : ((((ms.take i).filter (selA lg gn)).length : Nat) : Int) = (((keepL ms lg gn).length : Nat) : Int) := by
  rw [List.take_of_length_le h]; rfl
theorem stay_end {ms js : List MemT} {lg gn : List Int} {j : Nat} (h : ms.length ≤ j) : keepL ms lg gn ++ (ms.take j).filter (selB lg gn) = joinL (stayL ms lg gn) (js.take 0) := by
  rw [List.take_of_length_le h]; rfl
theorem jn_y2 {acc l : List MemT} {i : Nat} {y : MemT} (h : l[i]? = some y) (h1 : hasM (joinL acc (l.take i)) y.1 = false) (h2 : chkC 1 ([(y.1, y.2)] : List MemT) = 0) (h3 : (joinL acc (l.take i)).length < 4) : joinL acc (l.take i) ++ [y] = joinL acc (l.take (i + 1)) :=
  jn_yes h (joinB_y (by omega) (by rw [← may_b]; simpa using h2) h1).symm
theorem jn_n1 {acc l : List MemT} {i : Nat} {y : MemT} (h : l[i]? = some y) (h1 : hasM (joinL acc (l.take i)) y.1 = true) : joinL acc (l.take i) = joinL acc (l.take (i + 1)) := jn_no h (joinB_3 h1).symm
theorem jn_n2 {acc l : List MemT} {i : Nat} {y : MemT} (h : l[i]? = some y) (h2 : ¬ chkC 1 ([(y.1, y.2)] : List MemT) = 0) : joinL acc (l.take i) = joinL acc (l.take (i + 1)) := jn_no h (joinB_2 (by rw [← may_b]; simpa using h2)).symm

set_option maxRecDepth 100000 in
theorem order_any (ep : Int) (mv : Value) (ms : List MemT) (fl : Int) (lv : Value) (lg : List Int) (gv : Value) (gn : List Int) (jv : Value) (js : List MemT) (w : World) (hs : SliceOf memE 2 w mv ms) (hmk : ∀ z ∈ ms, memOk z) (hlg : SliceOf (intE .i64) 1 w lv lg) (hgn : SliceOf (intE .i64) 1 w gv gn) (hjs : SliceOf memE 2 w jv js) (hjk : ∀ z ∈ js, memOk z) (hlen : ms.length ≤ 4 ∧ js.length ≤ 1000) :
    Calls Try.prog 106 #[.agg #[.int .i64 ep, mv, .int .u64 fl], lv, gv, jv] w fun e w' => ∃ (u : Value), e = .returned (.tuple #[u, .int .i64 (((keepL ms lg gn).length : Nat) : Int)]) ∧ w'.ownsRow w.heap.size 114 2 u (planL ms lg gn js).length ((planL ms lg gn js).flatMap memE) ∧ Below w.heap.size w w' := by
 have hB0 := Below.refl w.heap.size w
 have hl_hs := sl_len hs
 have hl_hlg := sl_len hlg
 have hl_hgn := sl_len hgn
 have hl_hjs := sl_len hjs
 refine co_enter (n := 108) Try.func106 rfl rfl rfl [(0, .agg #[.int .i64 ep, mv, .int .u64 fl]), (1, lv), (2, gv), (3, jv)] rfl (fun a h0 => ?_)
 refine co_seq ?_
 refine co_reg ?_
 refine pw h0 rfl (op_new (v := fun N => pt N 0) (T := 91) (cs := #[.int .i64 ep, mv, .int .u64 fl]) (by kernel_rfl) (by kernel_rfl) (by kernel_rfl)) ?_; clear h0
 rintro _ w2 a1 ⟨N3, rfl, hN6, hz7, hk5, hg4⟩ h1
 have hz8 := hg4.size
 try dsimp only at h1
 refine pk0 (v := .slice none 0 0) h1 rfl fun a9 h9 => ?_; clear h1
 refine pk0 (v := .int .i64 0) h9 rfl fun a10 h10 => ?_; clear h9
 refine pl_nil ?_
 refine co_then ?_
 refine co_seq ?_
 refine co_reg ?_
 refine pk0 (v := .slice none 0 0) h10 rfl fun a11 h11 => ?_; clear h10
 refine pl_nil ?_
 refine co_then ?_
 refine co_seq ?_
 refine co_seq ?_
 refine co_reg ?_
 refine pk0 (v := .int .i64 0) h11 rfl fun a12 h12 => ?_; clear h11
 refine pl_nil ?_
 refine co_then ?_
 refine wp_block ?_
 have h13 : Slots 108 [(0, .agg #[.int .i64 ep, mv, .int .u64 fl]), (1, lv), (2, gv), (3, jv), (4, pt N3 0), (10, .slice none 0 0), (11, .int .i64 0)] _ := h12.sub ⟨rfl, rfl, rfl, rfl, rfl, rfl, rfl, trivial⟩; clear h12
 refine co_loop (fun mm a x => ∃ (i : Nat) (u0 : Value), Slots 108 [(0, .agg #[.int .i64 ep, mv, .int .u64 fl]), (1, lv), (2, gv), (3, jv), (4, pt N3 0), (10, u0), (11, .int .i64 ((i : Nat) : Int))] a ∧ mm = ms.length - i ∧ (i ≤ ms.length) ∧ x.ownsRow (N3 + 1) 114 2 u0 ((ms.take i).filter (selA lg gn)).length (((ms.take i).filter (selA lg gn)).flatMap memE) ∧ Below w.heap.size w x ∧ Blk x N3 91 #[.int .i64 ep, mv, .int .u64 fl]) (ms.length - 0) ?_ ?_
 have hB14 := hb_new hB0 hg4
 · exact ⟨0, (.slice none 0 0), h13.sub ⟨rfl, rfl, rfl, rfl, rfl, rfl, (slot_eq rfl (congrArg (Value.int .i64) (by first | rfl | omega))), trivial⟩, rfl, by omega, (row_nilL _ _ _ _ _), hB14, hk5⟩
 · rintro k15 a16 w17 ⟨i, u0, h16, rfl, hi18, hf19, hB20, hk21⟩
   have hz22 := hB20.size
   have hl23 := hk21.lt
   have hjl := filt_take (p := selA lg gn) (l := ms) (i := i)
   refine co_seq ?_
   refine co_seq ?_
   refine co_reg ?_
   refine pk0 (v := .int .i64 ((i : Nat) : Int)) h16 rfl fun a24 h24 => ?_; clear h16
   refine pk0 (v := pt N3 1) h24 rfl fun a25 h25 => ?_; clear h24
   refine pk (v := mv) h25 rfl (rn_load1 rfl rfl Try.isAgg89 (hk21.cell rfl)) fun a26 h26 => ?_; clear h25
   refine pk (v := .int .i64 ((ms.length : Nat) : Int)) h26 rfl (rn_len rfl rfl Try.underlying89 (hs.below hB20)) fun a27 h27 => ?_; clear h26
   refine pk0 (v := .bool (decide (((i : Nat) : Int) < ((ms.length : Nat) : Int)))) h27 rfl fun a28 h28 => ?_; clear h27
   refine pl_nil ?_
   refine co_then ?_
   cases hc29 : (decide (((i : Nat) : Int) < ((ms.length : Nat) : Int)))
   ·
    rw [hc29] at h28
    have hp30 : ¬ (((i : Nat) : Int) < ((ms.length : Nat) : Int)) := of_decide_eq_false hc29
    clear hc29
    refine co_false h28 rfl ?_
    refine wp_exit ?_
    refine co_thenX ?_
    refine co_thenX ?_
    refine co_blockX ?_
    refine co_then ?_
    refine co_seq ?_
    refine co_reg ?_
    refine pk0 (v := u0) h28 rfl fun a31 h31 => ?_; clear h28
    refine pk (v := .int .i64 ((((ms.take i).filter (selA lg gn)).length : Nat) : Int)) h31 rfl (rn_lenOwn rfl rfl Try.underlying89 hf19) fun a32 h32 => ?_; clear h31
    refine pk0 (v := .int .i64 ((((ms.take i).filter (selA lg gn)).length : Nat) : Int)) h32 rfl fun a33 h33 => ?_; clear h32
    refine pl_nil ?_
    refine co_then ?_
    refine co_seq ?_
    refine co_seq ?_
    refine co_reg ?_
    refine pk0 (v := .int .i64 0) h33 rfl fun a34 h34 => ?_; clear h33
    refine pl_nil ?_
    refine co_then ?_
    refine wp_block ?_
    have h35 : Slots 108 [(0, .agg #[.int .i64 ep, mv, .int .u64 fl]), (1, lv), (2, gv), (3, jv), (4, pt N3 0), (10, u0), (13, .int .i64 ((((ms.take i).filter (selA lg gn)).length : Nat) : Int)), (14, .int .i64 0)] _ := h34.sub ⟨rfl, rfl, rfl, rfl, rfl, rfl, rfl, rfl, trivial⟩; clear h34
    refine co_loop (fun mm a x => ∃ (j : Nat) (u1 : Value), Slots 108 [(0, .agg #[.int .i64 ep, mv, .int .u64 fl]), (1, lv), (2, gv), (3, jv), (4, pt N3 0), (10, u1), (13, .int .i64 (((keepL ms lg gn).length : Nat) : Int)), (14, .int .i64 ((j : Nat) : Int))] a ∧ mm = ms.length - j ∧ (j ≤ ms.length) ∧ x.ownsRow (N3 + 1) 114 2 u1 (keepL ms lg gn ++ (ms.take j).filter (selB lg gn)).length ((keepL ms lg gn ++ (ms.take j).filter (selB lg gn)).flatMap memE) ∧ Below w.heap.size w x ∧ Blk x N3 91 #[.int .i64 ep, mv, .int .u64 fl]) (ms.length - 0) ?_ ?_
    · exact ⟨0, u0, h35.sub ⟨rfl, rfl, rfl, rfl, rfl, rfl, (slot_eq rfl (congrArg (Value.int .i64) (by first | rfl | exact keepN_end (by omega)))), (slot_eq rfl (congrArg (Value.int .i64) (by first | rfl | omega))), trivial⟩, rfl, by omega, (row_eq hf19 (by first | exact keep_end (by omega) | exact app_yes (by assumption) (selB_t (by assumption) (by assumption)) | exact app_no (by assumption) (selB_f (by assumption)) | exact app_no (by assumption) (selB_g (by assumption)))), hB20, hk21⟩
    · rintro k36 a37 w38 ⟨j, u1, h37, rfl, hi39, hf40, hB41, hk42⟩
      have hz43 := hB41.size
      have hl44 := hk42.lt
      have hjl := filt_take (p := selB lg gn) (l := ms) (i := j)
      have hjm := keep_le ms lg gn
      refine co_seq ?_
      refine co_seq ?_
      refine co_reg ?_
      refine pk0 (v := .int .i64 ((j : Nat) : Int)) h37 rfl fun a45 h45 => ?_; clear h37
      refine pk0 (v := pt N3 1) h45 rfl fun a46 h46 => ?_; clear h45
      refine pk (v := mv) h46 rfl (rn_load1 rfl rfl Try.isAgg89 (hk42.cell rfl)) fun a47 h47 => ?_; clear h46
      refine pk (v := .int .i64 ((ms.length : Nat) : Int)) h47 rfl (rn_len rfl rfl Try.underlying89 (hs.below hB41)) fun a48 h48 => ?_; clear h47
      refine pk0 (v := .bool (decide (((j : Nat) : Int) < ((ms.length : Nat) : Int)))) h48 rfl fun a49 h49 => ?_; clear h48
      refine pl_nil ?_
      refine co_then ?_
      cases hc50 : (decide (((j : Nat) : Int) < ((ms.length : Nat) : Int)))
      ·
       rw [hc50] at h49
       have hp51 : ¬ (((j : Nat) : Int) < ((ms.length : Nat) : Int)) := of_decide_eq_false hc50
       clear hc50
       refine co_false h49 rfl ?_
       refine wp_exit ?_
       refine co_thenX ?_
       refine co_thenX ?_
       refine co_blockX ?_
       refine co_then ?_
       refine co_seq ?_
       refine co_seq ?_
       refine co_reg ?_
       refine pk0 (v := .int .i64 0) h49 rfl fun a52 h52 => ?_; clear h49
       refine pl_nil ?_
       refine co_then ?_
       refine wp_block ?_
       have h53 : Slots 108 [(0, .agg #[.int .i64 ep, mv, .int .u64 fl]), (1, lv), (2, gv), (3, jv), (4, pt N3 0), (10, u1), (13, .int .i64 (((keepL ms lg gn).length : Nat) : Int)), (16, .int .i64 0)] _ := h52.sub ⟨rfl, rfl, rfl, rfl, rfl, rfl, rfl, rfl, trivial⟩; clear h52
       refine co_loop (fun mm a x => ∃ (k : Nat) (u2 : Value), Slots 108 [(0, .agg #[.int .i64 ep, mv, .int .u64 fl]), (1, lv), (2, gv), (3, jv), (4, pt N3 0), (10, u2), (13, .int .i64 (((keepL ms lg gn).length : Nat) : Int)), (16, .int .i64 ((k : Nat) : Int))] a ∧ mm = js.length - k ∧ (k ≤ js.length) ∧ x.ownsRow (N3 + 1) 114 2 u2 (joinL (stayL ms lg gn) (js.take k)).length ((joinL (stayL ms lg gn) (js.take k)).flatMap memE) ∧ Below w.heap.size w x ∧ Blk x N3 91 #[.int .i64 ep, mv, .int .u64 fl]) (js.length - 0) ?_ ?_
       · exact ⟨0, u1, h53.sub ⟨rfl, rfl, rfl, rfl, rfl, rfl, rfl, (slot_eq rfl (congrArg (Value.int .i64) (by first | rfl | omega))), trivial⟩, rfl, by omega, (row_eq hf40 (by first | exact stay_end (by omega) | exact jn_y2 (by assumption) (by assumption) (by omega) (by omega) | exact jn_n1 (by assumption) (by assumption) | exact jn_n2 (by assumption) (by omega))), hB41, hk42⟩
       · rintro k54 a55 w56 ⟨k, u2, h55, rfl, hi57, hf58, hB59, hk60⟩
         have hz61 := hB59.size
         have hl62 := hk60.lt
         have hjl := join_le (acc := stayL ms lg gn) (Nat.le_trans (stayL_le ms lg gn) hlen.1) (js.take k)
         refine co_seq ?_
         refine co_seq ?_
         refine co_reg ?_
         refine pk0 (v := .int .i64 ((k : Nat) : Int)) h55 rfl fun a63 h63 => ?_; clear h55
         refine pk0 (v := jv) h63 rfl fun a64 h64 => ?_; clear h63
         refine pk (v := .int .i64 ((js.length : Nat) : Int)) h64 rfl (rn_len rfl rfl Try.underlying89 (hjs.below hB59)) fun a65 h65 => ?_; clear h64
         refine pk0 (v := .bool (decide (((k : Nat) : Int) < ((js.length : Nat) : Int)))) h65 rfl fun a66 h66 => ?_; clear h65
         refine pk0 (v := .bool (decide (((k : Nat) : Int) < ((js.length : Nat) : Int)))) h66 rfl fun a67 h67 => ?_; clear h66
         cases hc68 : (decide (((k : Nat) : Int) < ((js.length : Nat) : Int)))
         ·
          rw [hc68] at h67
          have hp69 : ¬ (((k : Nat) : Int) < ((js.length : Nat) : Int)) := of_decide_eq_false hc68
          clear hc68
          refine psk h67 rfl fun a70 h70 => ?_; clear h67
          refine psk h70 rfl fun a71 h71 => ?_; clear h70
          refine psk h71 rfl fun a72 h72 => ?_; clear h71
          refine pk0 (v := .bool false) h72 rfl fun a73 h73 => ?_; clear h72
          refine pl_nil ?_
          refine co_then ?_
          refine co_false h73 rfl ?_
          refine wp_exit ?_
          refine co_thenX ?_
          refine co_thenX ?_
          refine co_blockX ?_
          refine co_then ?_
          refine co_seq ?_
          refine co_reg ?_
          refine pk0 (v := u2) h73 rfl fun a74 h74 => ?_; clear h73
          refine pk0 (v := .int .i64 (((keepL ms lg gn).length : Nat) : Int)) h74 rfl fun a75 h75 => ?_; clear h74
          refine pk0 (v := u2) h75 rfl fun a76 h76 => ?_; clear h75
          refine pk0 (v := .int .i64 (((keepL ms lg gn).length : Nat) : Int)) h76 rfl fun a77 h77 => ?_; clear h76
          refine pl_nil ?_
          refine co_then ?_
          refine wp_ret ?_
          refine co_ret2 h77 rfl rfl rfl ?_
          exact ⟨_, rfl, (row_eq (row_lows hf58 (by omega)) (join_end (by first | (left; omega) | (right; omega)))), hB59⟩
         ·
          rw [hc68] at h67
          have hp78 : ((k : Nat) : Int) < ((js.length : Nat) : Int) := of_decide_eq_true hc68
          clear hc68
          refine pk0 (v := u2) h67 rfl fun a79 h79 => ?_; clear h67
          refine pk (v := .int .i64 (((joinL (stayL ms lg gn) (js.take k)).length : Nat) : Int)) h79 rfl (rn_lenOwn rfl rfl Try.underlying89 hf58) fun a80 h80 => ?_; clear h79
          refine pk0 (v := .bool (decide ((((joinL (stayL ms lg gn) (js.take k)).length : Nat) : Int) < 4))) h80 rfl fun a81 h81 => ?_; clear h80
          refine pk0 (v := .bool (decide ((((joinL (stayL ms lg gn) (js.take k)).length : Nat) : Int) < 4))) h81 rfl fun a82 h82 => ?_; clear h81
          refine pl_nil ?_
          refine co_then ?_
          cases hc83 : (decide ((((joinL (stayL ms lg gn) (js.take k)).length : Nat) : Int) < 4))
          ·
           rw [hc83] at h82
           have hp84 : ¬ ((((joinL (stayL ms lg gn) (js.take k)).length : Nat) : Int) < 4) := of_decide_eq_false hc83
           clear hc83
           refine co_false h82 rfl ?_
           refine wp_exit ?_
           refine co_thenX ?_
           refine co_thenX ?_
           refine co_blockX ?_
           refine co_then ?_
           refine co_seq ?_
           refine co_reg ?_
           refine pk0 (v := u2) h82 rfl fun a85 h85 => ?_; clear h82
           refine pk0 (v := .int .i64 (((keepL ms lg gn).length : Nat) : Int)) h85 rfl fun a86 h86 => ?_; clear h85
           refine pk0 (v := u2) h86 rfl fun a87 h87 => ?_; clear h86
           refine pk0 (v := .int .i64 (((keepL ms lg gn).length : Nat) : Int)) h87 rfl fun a88 h88 => ?_; clear h87
           refine pl_nil ?_
           refine co_then ?_
           refine wp_ret ?_
           refine co_ret2 h88 rfl rfl rfl ?_
           exact ⟨_, rfl, (row_eq (row_lows hf58 (by omega)) (join_end (by first | (left; omega) | (right; omega)))), hB59⟩
          ·
           rw [hc83] at h82
           have hp89 : (((joinL (stayL ms lg gn) (js.take k)).length : Nat) : Int) < 4 := of_decide_eq_true hc83
           clear hc83
           refine co_true h82 rfl ?_
           refine wp_skip ?_
           refine co_then ?_
           refine co_seq ?_
           refine wp_block ?_
           refine co_seq ?_
           refine co_reg ?_
           refine pk0 (v := jv) h82 rfl fun a90 h90 => ?_; clear h82
           refine pk0 (v := .int .i64 ((k : Nat) : Int)) h90 rfl fun a91 h91 => ?_; clear h90
           obtain ⟨y92, hy92⟩ : ∃ z, js[k]? = some z := ⟨_, List.getElem?_eq_getElem (by first | omega | (simp; done) | (simp; omega))⟩
           have oky92 := hjk _ (List.mem_of_getElem? hy92)
           refine pk (v := pt (blkOf jv) (offOf jv + k * 2)) h91 rfl (rn_index rfl rfl rfl Try.underlying89 Try.sizeOf114 (hjs.below hB59) (by omega) (by first | omega | (simp; done) | (simp; omega))) fun a93 h93 => ?_; clear h91
           refine pk (v := .agg #[.int .i64 y92.1, .int .i64 y92.2]) h93 rfl (rn_loadN rfl rfl Try.underlying114 rfl (by kernel_rfl) (sl_at (hjs.below hB59) hy92)) fun a94 h94 => ?_; clear h93
           refine pw h94 rfl (op_new (v := fun N => pt N 0) (T := 114) (cs := #[.int .i64 0, .int .i64 0]) (by kernel_rfl) (by kernel_rfl) (by kernel_rfl)) ?_; clear h94
           rintro _ w96 a95 ⟨N97, rfl, hN100, hz101, hk99, hg98⟩ h95
           have ha102 := row_fresh hf58 hN100
           have hz103 := hg98.size
           try dsimp only at h95
           refine pwD h95 rfl (op_storeN rfl rfl rfl (by kernel_rfl) (by kernel_rfl) hk99 rfl) ?_; clear h95
           rintro _ w105 a104 ⟨hk106, hz107, hg108⟩ h104
           have hk106' : Blk w105 N97 114 #[.int .i64 y92.1, .int .i64 y92.2] := hk106; clear hk106
           have hz109 := hg108.size
           refine pl_nil ?_
           refine co_then ?_
           refine co_seq ?_
           refine co_reg ?_
           refine pk0 (v := u2) h104 rfl fun a110 h110 => ?_; clear h104
           refine pk0 (v := pt N97 0) h110 rfl fun a111 h111 => ?_; clear h110
           refine pk (v := .int .i64 y92.1) h111 rfl (rn_load1 rfl rfl Try.isAgg3 (hk106'.cell rfl)) fun a112 h112 => ?_; clear h111
           have hr115 := row_kept_new hf58 hg98
           have hr116 := row_kept_at hr115 hg108 (ha102)
           refine pw h112 rfl (op_call (args := #[u2, .int .i64 y92.1]) (R := fun res xw => res = .bool (hasM (joinL (stayL ms lg gn) (js.take k)) y92.1) ∧ Below w105.heap.size w105 xw) rfl rfl rfl (by kernel_rfl) (by kernel_rfl) (Try.call130 _ _) (has_any u2 (joinL (stayL ms lg gn) (js.take k)) y92.1 w105 (row_sl hr116 memE_len)) (by rintro e x ⟨rfl, hb117⟩; exact ⟨_, rfl, ⟨rfl, hb117⟩⟩)) ?_; clear h112
           rintro _ w114 a113 ⟨rfl, hb117⟩ h113
           have hz118 := hb117.size
           have hB120 := hb_new hB59 hg98
           have hB121 := hb_at hB120 hg108 (by omega)
           have hB122 := hb_call hB121 hb117
           have hk123 := hk60.kept hg98 (by simp)
           have hk124 := hk123.kept hg108 (by simp; omega)
           have hk125 := hk124.below hb117
           cases hc119 : (hasM (joinL (stayL ms lg gn) (js.take k)) y92.1)
           ·
            rw [hc119] at h113
            refine pk0 (v := .bool true) h113 rfl fun a126 h126 => ?_; clear h113
            refine pk0 (v := .bool true) h126 rfl fun a127 h127 => ?_; clear h126
            have hk128 := hk106'.below hb117
            refine pk (v := .agg #[.int .i64 y92.1, .int .i64 y92.2]) h127 rfl (rn_loadN rfl rfl Try.underlying114 rfl (by kernel_rfl) hk128.all) fun a129 h129 => ?_; clear h127
            refine pw h129 rfl (op_new (v := fun N => .slice (some ⟨N, 0, none⟩) 1 1) (T := 114) (cs := #[.int .i64 y92.1, .int .i64 y92.2]) (by kernel_rfl) (by kernel_rfl) (by kernel_rfl)) ?_; clear h129
            rintro _ w131 a130 ⟨N132, rfl, hN135, hz136, hk134, hg133⟩ h130
            have hr138 := row_kept_new hr116 (below_grown hb117)
            have ha137 := row_fresh hr138 hN135
            have hz139 := hg133.size
            try dsimp only at h130
            refine pk0 (v := .agg #[.int .i64 1, .slice (some ⟨N132, 0, none⟩) 1 1, .int .u64 0]) h130 rfl fun a140 h140 => ?_; clear h130
            have hr143 := row_of_cells (enc := memE) (sz := 2) ([(y92.1, y92.2)] : List MemT) hk134 (Nat.le_refl _) rfl rfl (by unfold maxLen; simp)
            refine pw h140 rfl (op_call (args := #[.agg #[.int .i64 1, .slice (some ⟨N132, 0, none⟩) 1 1, .int .u64 0]]) (R := fun res xw => res = .int .i64 (chkC 1 ([(y92.1, y92.2)] : List MemT)) ∧ Below w131.heap.size w131 xw) rfl rfl rfl (by kernel_rfl) (by kernel_rfl) (Try.call69 _ _) (wrcheck_any 1 (.slice (some ⟨N132, 0, none⟩) 1 1) ([(y92.1, y92.2)] : List MemT) 0 w131 (row_sl hr143 memE_len) (by intro z hz; simp at hz; subst hz; exact oky92) (by omega) (by omega)) (by rintro e x ⟨rfl, hb144⟩; exact ⟨_, rfl, ⟨rfl, hb144⟩⟩)) ?_; clear h140
            rintro _ w142 a141 ⟨rfl, hb144⟩ h141
            have hz145 := hb144.size
            refine pk0 (v := .bool (chkC 1 ([(y92.1, y92.2)] : List MemT) == 0)) h141 rfl fun a146 h146 => ?_; clear h141
            refine pk0 (v := .bool (chkC 1 ([(y92.1, y92.2)] : List MemT) == 0)) h146 rfl fun a147 h147 => ?_; clear h146
            refine pl_nil ?_
            refine co_then ?_
            have hB149 := hb_new hB122 hg133
            have hB150 := hb_call hB149 hb144
            have hk151 := hk125.kept hg133 (by simp)
            have hk152 := hk151.below hb144
            have hr153 := row_kept_new hr138 hg133
            have hr154 := row_kept_new hr153 (below_grown hb144)
            have hk155 := hk128.kept hg133 (by simp)
            have hk156 := hk155.below hb144
            cases hc148 : (chkC 1 ([(y92.1, y92.2)] : List MemT) == 0)
            ·
             rw [hc148] at h147
             have hp157 : ¬ (chkC 1 ([(y92.1, y92.2)] : List MemT) = 0) := by first | simpa using hc148 | simpa [and_assoc] using hc148
             clear hc148
             refine co_false h147 rfl ?_
             refine wp_skip ?_
             refine co_blockN ?_
             refine co_then ?_
             refine co_reg ?_
             refine pk0 (v := .int .i64 ((k : Nat) : Int)) h147 rfl fun a158 h158 => ?_; clear h147
             refine pk (v := .int .i64 ((k + 1 : Nat) : Int)) h158 rfl (rn_arith' rfl rfl rfl rfl rfl rfl (IntWalk.i64_in _ (by omega)) (by omega)) fun a159 h159 => ?_; clear h158
             refine pk0 (v := .int .i64 ((k + 1 : Nat) : Int)) h159 rfl fun a160 h160 => ?_; clear h159
             refine pl_nil ?_
             refine co_then ?_
             refine ⟨(js.length - (k + 1)), by omega, ?_⟩
             exact ⟨k + 1, u2, h160.sub ⟨rfl, rfl, rfl, rfl, rfl, rfl, rfl, rfl, trivial⟩, rfl, by omega, (row_eq hr154 (by first | exact stay_end (by omega) | exact jn_y2 (by assumption) (by assumption) (by omega) (by omega) | exact jn_n1 (by assumption) (by assumption) | exact jn_n2 (by assumption) (by omega))), hB150, hk152⟩
            ·
             rw [hc148] at h147
             have hp161 : chkC 1 ([(y92.1, y92.2)] : List MemT) = 0 := by first | simpa using hc148 | simpa [and_assoc] using hc148
             clear hc148
             refine co_true h147 rfl ?_
             refine co_reg ?_
             refine pk0 (v := u2) h147 rfl fun a162 h162 => ?_; clear h147
             refine pk (v := .agg #[.int .i64 y92.1, .int .i64 y92.2]) h162 rfl (rn_loadN rfl rfl Try.underlying114 rfl (by kernel_rfl) hk156.all) fun a163 h163 => ?_; clear h162
             refine pw h163 rfl (op_new (v := fun N => .slice (some ⟨N, 0, none⟩) 1 1) (T := 114) (cs := #[.int .i64 y92.1, .int .i64 y92.2]) (by kernel_rfl) (by kernel_rfl) (by kernel_rfl)) ?_; clear h163
             rintro _ w165 a164 ⟨N166, rfl, hN169, hz170, hk168, hg167⟩ h164
             have ha171 := row_fresh hr154 hN169
             have hr173 := row_kept_new hr143 (below_grown hb144)
             have ha172 := row_fresh hr173 hN169
             have hz174 := hg167.size
             try dsimp only at h164
             have hr180 := row_kept_new hr154 hg167
             refine pw h164 rfl (op_append rfl (N3 + 1) 114 (z := .agg #[.int .i64 0, .int .i64 0]) (size := 2) (bytes := 16) Try.underlying89 (by kernel_rfl) rfl rfl rfl hr180 rfl hk168 rfl (by kernel_rfl) (by first | omega | (simp only [List.length_nil, List.length_append, List.length_cons, List.length_take, List.length_drop]; omega)) (by first | omega | (simp only [List.length_nil, List.length_append, List.length_cons, List.length_take, List.length_drop]; omega)) (by omega)) ?_; clear h164
             rintro v177 w176 a175 ⟨hr178, hg179⟩ h175
             have hr178' : w176.ownsRow (N3 + 1) 114 2 v177 ((joinL (stayL ms lg gn) (js.take k) ++ [(y92.1, y92.2)]).length) ((joinL (stayL ms lg gn) (js.take k) ++ [(y92.1, y92.2)]).flatMap memE) := row_push (y := (y92.1, y92.2)) hr178 rfl rfl; clear hr178
             have hz181 := hg179.size
             refine pk0 (v := v177) h175 rfl fun a182 h182 => ?_; clear h175
             refine pl_nil ?_
             refine co_blockN ?_
             refine co_then ?_
             refine co_reg ?_
             refine pk0 (v := .int .i64 ((k : Nat) : Int)) h182 rfl fun a183 h183 => ?_; clear h182
             refine pk (v := .int .i64 ((k + 1 : Nat) : Int)) h183 rfl (rn_arith' rfl rfl rfl rfl rfl rfl (IntWalk.i64_in _ (by omega)) (by omega)) fun a184 h184 => ?_; clear h183
             refine pk0 (v := .int .i64 ((k + 1 : Nat) : Int)) h184 rfl fun a185 h185 => ?_; clear h184
             refine pl_nil ?_
             refine co_then ?_
             refine ⟨(js.length - (k + 1)), by omega, ?_⟩
             have hB186 := hb_new hB150 hg167
             have hB187 := hb_row hB186 hr180 (by omega) hg179
             have hk188 := hk152.kept hg167 (by simp)
             have hk189 := hk188.kept hg179 (row_ne_lt hr180 (by omega))
             exact ⟨k + 1, v177, h185.sub ⟨rfl, rfl, rfl, rfl, rfl, rfl, rfl, rfl, trivial⟩, rfl, by omega, (row_eq hr178' (by first | exact stay_end (by omega) | exact jn_y2 (by assumption) (by assumption) (by omega) (by omega) | exact jn_n1 (by assumption) (by assumption) | exact jn_n2 (by assumption) (by omega))), hB187, hk189⟩
           ·
            rw [hc119] at h113
            refine pk0 (v := .bool false) h113 rfl fun a190 h190 => ?_; clear h113
            refine pk0 (v := .bool false) h190 rfl fun a191 h191 => ?_; clear h190
            refine psk h191 rfl fun a192 h192 => ?_; clear h191
            refine psk h192 rfl fun a193 h193 => ?_; clear h192
            refine psk h193 rfl fun a194 h194 => ?_; clear h193
            refine psk h194 rfl fun a195 h195 => ?_; clear h194
            refine psk h195 rfl fun a196 h196 => ?_; clear h195
            refine pk0 (v := .bool false) h196 rfl fun a197 h197 => ?_; clear h196
            refine pl_nil ?_
            refine co_then ?_
            refine co_false h197 rfl ?_
            refine wp_skip ?_
            refine co_blockN ?_
            refine co_then ?_
            refine co_reg ?_
            refine pk0 (v := .int .i64 ((k : Nat) : Int)) h197 rfl fun a198 h198 => ?_; clear h197
            refine pk (v := .int .i64 ((k + 1 : Nat) : Int)) h198 rfl (rn_arith' rfl rfl rfl rfl rfl rfl (IntWalk.i64_in _ (by omega)) (by omega)) fun a199 h199 => ?_; clear h198
            refine pk0 (v := .int .i64 ((k + 1 : Nat) : Int)) h199 rfl fun a200 h200 => ?_; clear h199
            refine pl_nil ?_
            refine co_then ?_
            refine ⟨(js.length - (k + 1)), by omega, ?_⟩
            have hr201 := row_kept_new hr116 (below_grown hb117)
            exact ⟨k + 1, u2, h200.sub ⟨rfl, rfl, rfl, rfl, rfl, rfl, rfl, rfl, trivial⟩, rfl, by omega, (row_eq hr201 (by first | exact stay_end (by omega) | exact jn_y2 (by assumption) (by assumption) (by omega) (by omega) | exact jn_n1 (by assumption) (by assumption) | exact jn_n2 (by assumption) (by omega))), hB122, hk125⟩
      ·
       rw [hc50] at h49
       have hp202 : ((j : Nat) : Int) < ((ms.length : Nat) : Int) := of_decide_eq_true hc50
       clear hc50
       refine co_true h49 rfl ?_
       refine wp_skip ?_
       refine co_then ?_
       refine co_seq ?_
       refine wp_block ?_
       refine co_seq ?_
       refine co_reg ?_
       refine pk0 (v := pt N3 1) h49 rfl fun a203 h203 => ?_; clear h49
       refine pk (v := mv) h203 rfl (rn_load1 rfl rfl Try.isAgg89 (hk42.cell rfl)) fun a204 h204 => ?_; clear h203
       refine pk0 (v := .int .i64 ((j : Nat) : Int)) h204 rfl fun a205 h205 => ?_; clear h204
       obtain ⟨y206, hy206⟩ : ∃ z, ms[j]? = some z := ⟨_, List.getElem?_eq_getElem (by first | omega | (simp; done) | (simp; omega))⟩
       have oky206 := hmk _ (List.mem_of_getElem? hy206)
       refine pk (v := pt (blkOf mv) (offOf mv + j * 2)) h205 rfl (rn_index rfl rfl rfl Try.underlying89 Try.sizeOf114 (hs.below hB41) (by omega) (by first | omega | (simp; done) | (simp; omega))) fun a207 h207 => ?_; clear h205
       refine pk (v := .agg #[.int .i64 y206.1, .int .i64 y206.2]) h207 rfl (rn_loadN rfl rfl Try.underlying114 rfl (by kernel_rfl) (sl_at (hs.below hB41) hy206)) fun a208 h208 => ?_; clear h207
       refine pw h208 rfl (op_new (v := fun N => pt N 0) (T := 114) (cs := #[.int .i64 0, .int .i64 0]) (by kernel_rfl) (by kernel_rfl) (by kernel_rfl)) ?_; clear h208
       rintro _ w210 a209 ⟨N211, rfl, hN214, hz215, hk213, hg212⟩ h209
       have ha216 := row_fresh hf40 hN214
       have hz217 := hg212.size
       try dsimp only at h209
       refine pwD h209 rfl (op_storeN rfl rfl rfl (by kernel_rfl) (by kernel_rfl) hk213 rfl) ?_; clear h209
       rintro _ w219 a218 ⟨hk220, hz221, hg222⟩ h218
       have hk220' : Blk w219 N211 114 #[.int .i64 y206.1, .int .i64 y206.2] := hk220; clear hk220
       have hz223 := hg222.size
       refine pl_nil ?_
       refine co_then ?_
       refine co_seq ?_
       refine co_reg ?_
       refine pk0 (v := gv) h218 rfl fun a224 h224 => ?_; clear h218
       refine pk0 (v := pt N211 0) h224 rfl fun a225 h225 => ?_; clear h224
       refine pk (v := .int .i64 y206.1) h225 rfl (rn_load1 rfl rfl Try.isAgg3 (hk220'.cell rfl)) fun a226 h226 => ?_; clear h225
       have hB229 := hb_new hB41 hg212
       have hB230 := hb_at hB229 hg222 (by omega)
       refine pw h226 rfl (op_call (args := #[gv, .int .i64 y206.1]) (R := fun res xw => res = .bool (inL gn y206.1) ∧ Below w219.heap.size w219 xw) rfl rfl rfl (by kernel_rfl) (by kernel_rfl) (Try.call70 _ _) (in_any gv gn y206.1 w219 (hgn.below hB230)) (by rintro e x ⟨rfl, hb231⟩; exact ⟨_, rfl, ⟨rfl, hb231⟩⟩)) ?_; clear h226
       rintro _ w228 a227 ⟨rfl, hb231⟩ h227
       have hz232 := hb231.size
       have hB234 := hb_call hB230 hb231
       have hk235 := hk42.kept hg212 (by simp)
       have hk236 := hk235.kept hg222 (by simp; omega)
       have hk237 := hk236.below hb231
       have hr238 := row_kept_new hf40 hg212
       have hr239 := row_kept_at hr238 hg222 (ha216)
       have hr240 := row_kept_new hr239 (below_grown hb231)
       cases hc233 : (inL gn y206.1)
       ·
        rw [hc233] at h227
        refine pk0 (v := .bool true) h227 rfl fun a241 h241 => ?_; clear h227
        refine pk0 (v := .bool true) h241 rfl fun a242 h242 => ?_; clear h241
        refine pk0 (v := lv) h242 rfl fun a243 h243 => ?_; clear h242
        refine pk0 (v := pt N211 0) h243 rfl fun a244 h244 => ?_; clear h243
        have hk245 := hk220'.below hb231
        refine pk (v := .int .i64 y206.1) h244 rfl (rn_load1 rfl rfl Try.isAgg3 (hk245.cell rfl)) fun a246 h246 => ?_; clear h244
        refine pw h246 rfl (op_call (args := #[lv, .int .i64 y206.1]) (R := fun res xw => res = .bool (inL lg y206.1) ∧ Below w228.heap.size w228 xw) rfl rfl rfl (by kernel_rfl) (by kernel_rfl) (Try.call70 _ _) (in_any lv lg y206.1 w228 (hlg.below hB234)) (by rintro e x ⟨rfl, hb249⟩; exact ⟨_, rfl, ⟨rfl, hb249⟩⟩)) ?_; clear h246
        rintro _ w248 a247 ⟨rfl, hb249⟩ h247
        have hz250 := hb249.size
        have hB252 := hb_call hB234 hb249
        cases hc251 : (inL lg y206.1)
        ·
         rw [hc251] at h247
         refine pk0 (v := .bool true) h247 rfl fun a253 h253 => ?_; clear h247
         refine pk0 (v := .bool true) h253 rfl fun a254 h254 => ?_; clear h253
         refine pl_nil ?_
         refine co_then ?_
         refine co_true h254 rfl ?_
         refine co_reg ?_
         refine pk0 (v := u1) h254 rfl fun a255 h255 => ?_; clear h254
         have hk256 := hk245.below hb249
         refine pk (v := .agg #[.int .i64 y206.1, .int .i64 y206.2]) h255 rfl (rn_loadN rfl rfl Try.underlying114 rfl (by kernel_rfl) hk256.all) fun a257 h257 => ?_; clear h255
         refine pw h257 rfl (op_new (v := fun N => .slice (some ⟨N, 0, none⟩) 1 1) (T := 114) (cs := #[.int .i64 y206.1, .int .i64 y206.2]) (by kernel_rfl) (by kernel_rfl) (by kernel_rfl)) ?_; clear h257
         rintro _ w259 a258 ⟨N260, rfl, hN263, hz264, hk262, hg261⟩ h258
         have hr266 := row_kept_new hr240 (below_grown hb249)
         have ha265 := row_fresh hr266 hN263
         have hz267 := hg261.size
         try dsimp only at h258
         have hr273 := row_kept_new hr266 hg261
         refine pw h258 rfl (op_append rfl (N3 + 1) 114 (z := .agg #[.int .i64 0, .int .i64 0]) (size := 2) (bytes := 16) Try.underlying89 (by kernel_rfl) rfl rfl rfl hr273 rfl hk262 rfl (by kernel_rfl) (by first | omega | (simp only [List.length_nil, List.length_append, List.length_cons, List.length_take, List.length_drop]; omega)) (by first | omega | (simp only [List.length_nil, List.length_append, List.length_cons, List.length_take, List.length_drop]; omega)) (by omega)) ?_; clear h258
         rintro v270 w269 a268 ⟨hr271, hg272⟩ h268
         have hr271' : w269.ownsRow (N3 + 1) 114 2 v270 ((keepL ms lg gn ++ (ms.take j).filter (selB lg gn) ++ [(y206.1, y206.2)]).length) ((keepL ms lg gn ++ (ms.take j).filter (selB lg gn) ++ [(y206.1, y206.2)]).flatMap memE) := row_push (y := (y206.1, y206.2)) hr271 rfl rfl; clear hr271
         have hz274 := hg272.size
         refine pk0 (v := v270) h268 rfl fun a275 h275 => ?_; clear h268
         refine pl_nil ?_
         refine co_blockN ?_
         refine co_then ?_
         refine co_reg ?_
         refine pk0 (v := .int .i64 ((j : Nat) : Int)) h275 rfl fun a276 h276 => ?_; clear h275
         refine pk (v := .int .i64 ((j + 1 : Nat) : Int)) h276 rfl (rn_arith' rfl rfl rfl rfl rfl rfl (IntWalk.i64_in _ (by omega)) (by omega)) fun a277 h277 => ?_; clear h276
         refine pk0 (v := .int .i64 ((j + 1 : Nat) : Int)) h277 rfl fun a278 h278 => ?_; clear h277
         refine pl_nil ?_
         refine co_then ?_
         refine ⟨(ms.length - (j + 1)), by omega, ?_⟩
         have hB279 := hb_new hB252 hg261
         have hB280 := hb_row hB279 hr273 (by omega) hg272
         have hk281 := hk237.below hb249
         have hk282 := hk281.kept hg261 (by simp)
         have hk283 := hk282.kept hg272 (row_ne_lt hr273 (by omega))
         exact ⟨j + 1, v270, h278.sub ⟨rfl, rfl, rfl, rfl, rfl, rfl, rfl, rfl, trivial⟩, rfl, by omega, (row_eq hr271' (by first | exact keep_end (by omega) | exact app_yes (by assumption) (selB_t (by assumption) (by assumption)) | exact app_no (by assumption) (selB_f (by assumption)) | exact app_no (by assumption) (selB_g (by assumption)))), hB280, hk283⟩
        ·
         rw [hc251] at h247
         refine pk0 (v := .bool false) h247 rfl fun a284 h284 => ?_; clear h247
         refine pk0 (v := .bool false) h284 rfl fun a285 h285 => ?_; clear h284
         refine pl_nil ?_
         refine co_then ?_
         refine co_false h285 rfl ?_
         refine wp_skip ?_
         refine co_blockN ?_
         refine co_then ?_
         refine co_reg ?_
         refine pk0 (v := .int .i64 ((j : Nat) : Int)) h285 rfl fun a286 h286 => ?_; clear h285
         refine pk (v := .int .i64 ((j + 1 : Nat) : Int)) h286 rfl (rn_arith' rfl rfl rfl rfl rfl rfl (IntWalk.i64_in _ (by omega)) (by omega)) fun a287 h287 => ?_; clear h286
         refine pk0 (v := .int .i64 ((j + 1 : Nat) : Int)) h287 rfl fun a288 h288 => ?_; clear h287
         refine pl_nil ?_
         refine co_then ?_
         refine ⟨(ms.length - (j + 1)), by omega, ?_⟩
         have hr289 := row_kept_new hr240 (below_grown hb249)
         have hk290 := hk237.below hb249
         exact ⟨j + 1, u1, h288.sub ⟨rfl, rfl, rfl, rfl, rfl, rfl, rfl, rfl, trivial⟩, rfl, by omega, (row_eq hr289 (by first | exact keep_end (by omega) | exact app_yes (by assumption) (selB_t (by assumption) (by assumption)) | exact app_no (by assumption) (selB_f (by assumption)) | exact app_no (by assumption) (selB_g (by assumption)))), hB252, hk290⟩
       ·
        rw [hc233] at h227
        refine pk0 (v := .bool false) h227 rfl fun a291 h291 => ?_; clear h227
        refine pk0 (v := .bool false) h291 rfl fun a292 h292 => ?_; clear h291
        refine psk h292 rfl fun a293 h293 => ?_; clear h292
        refine psk h293 rfl fun a294 h294 => ?_; clear h293
        refine psk h294 rfl fun a295 h295 => ?_; clear h294
        refine psk h295 rfl fun a296 h296 => ?_; clear h295
        refine psk h296 rfl fun a297 h297 => ?_; clear h296
        refine pk0 (v := .bool false) h297 rfl fun a298 h298 => ?_; clear h297
        refine pl_nil ?_
        refine co_then ?_
        refine co_false h298 rfl ?_
        refine wp_skip ?_
        refine co_blockN ?_
        refine co_then ?_
        refine co_reg ?_
        refine pk0 (v := .int .i64 ((j : Nat) : Int)) h298 rfl fun a299 h299 => ?_; clear h298
        refine pk (v := .int .i64 ((j + 1 : Nat) : Int)) h299 rfl (rn_arith' rfl rfl rfl rfl rfl rfl (IntWalk.i64_in _ (by omega)) (by omega)) fun a300 h300 => ?_; clear h299
        refine pk0 (v := .int .i64 ((j + 1 : Nat) : Int)) h300 rfl fun a301 h301 => ?_; clear h300
        refine pl_nil ?_
        refine co_then ?_
        refine ⟨(ms.length - (j + 1)), by omega, ?_⟩
        exact ⟨j + 1, u1, h301.sub ⟨rfl, rfl, rfl, rfl, rfl, rfl, rfl, rfl, trivial⟩, rfl, by omega, (row_eq hr240 (by first | exact keep_end (by omega) | exact app_yes (by assumption) (selB_t (by assumption) (by assumption)) | exact app_no (by assumption) (selB_f (by assumption)) | exact app_no (by assumption) (selB_g (by assumption)))), hB234, hk237⟩
   ·
    rw [hc29] at h28
    have hp302 : ((i : Nat) : Int) < ((ms.length : Nat) : Int) := of_decide_eq_true hc29
    clear hc29
    refine co_true h28 rfl ?_
    refine wp_skip ?_
    refine co_then ?_
    refine co_seq ?_
    refine wp_block ?_
    refine co_seq ?_
    refine co_reg ?_
    refine pk0 (v := pt N3 1) h28 rfl fun a303 h303 => ?_; clear h28
    refine pk (v := mv) h303 rfl (rn_load1 rfl rfl Try.isAgg89 (hk21.cell rfl)) fun a304 h304 => ?_; clear h303
    refine pk0 (v := .int .i64 ((i : Nat) : Int)) h304 rfl fun a305 h305 => ?_; clear h304
    obtain ⟨y306, hy306⟩ : ∃ z, ms[i]? = some z := ⟨_, List.getElem?_eq_getElem (by first | omega | (simp; done) | (simp; omega))⟩
    have oky306 := hmk _ (List.mem_of_getElem? hy306)
    refine pk (v := pt (blkOf mv) (offOf mv + i * 2)) h305 rfl (rn_index rfl rfl rfl Try.underlying89 Try.sizeOf114 (hs.below hB20) (by omega) (by first | omega | (simp; done) | (simp; omega))) fun a307 h307 => ?_; clear h305
    refine pk (v := .agg #[.int .i64 y306.1, .int .i64 y306.2]) h307 rfl (rn_loadN rfl rfl Try.underlying114 rfl (by kernel_rfl) (sl_at (hs.below hB20) hy306)) fun a308 h308 => ?_; clear h307
    refine pw h308 rfl (op_new (v := fun N => pt N 0) (T := 114) (cs := #[.int .i64 0, .int .i64 0]) (by kernel_rfl) (by kernel_rfl) (by kernel_rfl)) ?_; clear h308
    rintro _ w310 a309 ⟨N311, rfl, hN314, hz315, hk313, hg312⟩ h309
    have ha316 := row_fresh hf19 hN314
    have hz317 := hg312.size
    try dsimp only at h309
    refine pwD h309 rfl (op_storeN rfl rfl rfl (by kernel_rfl) (by kernel_rfl) hk313 rfl) ?_; clear h309
    rintro _ w319 a318 ⟨hk320, hz321, hg322⟩ h318
    have hk320' : Blk w319 N311 114 #[.int .i64 y306.1, .int .i64 y306.2] := hk320; clear hk320
    have hz323 := hg322.size
    refine pl_nil ?_
    refine co_then ?_
    refine co_seq ?_
    refine co_reg ?_
    refine pk0 (v := gv) h318 rfl fun a324 h324 => ?_; clear h318
    refine pk0 (v := pt N311 0) h324 rfl fun a325 h325 => ?_; clear h324
    refine pk (v := .int .i64 y306.1) h325 rfl (rn_load1 rfl rfl Try.isAgg3 (hk320'.cell rfl)) fun a326 h326 => ?_; clear h325
    have hB329 := hb_new hB20 hg312
    have hB330 := hb_at hB329 hg322 (by omega)
    refine pw h326 rfl (op_call (args := #[gv, .int .i64 y306.1]) (R := fun res xw => res = .bool (inL gn y306.1) ∧ Below w319.heap.size w319 xw) rfl rfl rfl (by kernel_rfl) (by kernel_rfl) (Try.call70 _ _) (in_any gv gn y306.1 w319 (hgn.below hB330)) (by rintro e x ⟨rfl, hb331⟩; exact ⟨_, rfl, ⟨rfl, hb331⟩⟩)) ?_; clear h326
    rintro _ w328 a327 ⟨rfl, hb331⟩ h327
    have hz332 := hb331.size
    have hB334 := hb_call hB330 hb331
    have hk335 := hk21.kept hg312 (by simp)
    have hk336 := hk335.kept hg322 (by simp; omega)
    have hk337 := hk336.below hb331
    have hr338 := row_kept_new hf19 hg312
    have hr339 := row_kept_at hr338 hg322 (ha316)
    have hr340 := row_kept_new hr339 (below_grown hb331)
    cases hc333 : (inL gn y306.1)
    ·
     rw [hc333] at h327
     refine pk0 (v := .bool true) h327 rfl fun a341 h341 => ?_; clear h327
     refine pk0 (v := .bool true) h341 rfl fun a342 h342 => ?_; clear h341
     refine pk0 (v := lv) h342 rfl fun a343 h343 => ?_; clear h342
     refine pk0 (v := pt N311 0) h343 rfl fun a344 h344 => ?_; clear h343
     have hk345 := hk320'.below hb331
     refine pk (v := .int .i64 y306.1) h344 rfl (rn_load1 rfl rfl Try.isAgg3 (hk345.cell rfl)) fun a346 h346 => ?_; clear h344
     refine pw h346 rfl (op_call (args := #[lv, .int .i64 y306.1]) (R := fun res xw => res = .bool (inL lg y306.1) ∧ Below w328.heap.size w328 xw) rfl rfl rfl (by kernel_rfl) (by kernel_rfl) (Try.call70 _ _) (in_any lv lg y306.1 w328 (hlg.below hB334)) (by rintro e x ⟨rfl, hb349⟩; exact ⟨_, rfl, ⟨rfl, hb349⟩⟩)) ?_; clear h346
     rintro _ w348 a347 ⟨rfl, hb349⟩ h347
     have hz350 := hb349.size
     refine pk0 (v := .bool (inL lg y306.1)) h347 rfl fun a351 h351 => ?_; clear h347
     refine pl_nil ?_
     refine co_then ?_
     have hB353 := hb_call hB334 hb349
     cases hc352 : (inL lg y306.1)
     ·
      rw [hc352] at h351
      refine co_false h351 rfl ?_
      refine wp_skip ?_
      refine co_blockN ?_
      refine co_then ?_
      refine co_reg ?_
      refine pk0 (v := .int .i64 ((i : Nat) : Int)) h351 rfl fun a354 h354 => ?_; clear h351
      refine pk (v := .int .i64 ((i + 1 : Nat) : Int)) h354 rfl (rn_arith' rfl rfl rfl rfl rfl rfl (IntWalk.i64_in _ (by omega)) (by omega)) fun a355 h355 => ?_; clear h354
      refine pk0 (v := .int .i64 ((i + 1 : Nat) : Int)) h355 rfl fun a356 h356 => ?_; clear h355
      refine pl_nil ?_
      refine co_then ?_
      refine ⟨(ms.length - (i + 1)), by omega, ?_⟩
      have hr357 := row_kept_new hr340 (below_grown hb349)
      have hk358 := hk337.below hb349
      exact ⟨i + 1, u0, h356.sub ⟨rfl, rfl, rfl, rfl, rfl, rfl, rfl, trivial⟩, rfl, by omega, (row_eq hr357 (by first | rfl | exact filt_yes (by assumption) (selA_t (by assumption) (by assumption)) | exact filt_no (by assumption) (selA_f (by assumption)) | exact filt_no (by assumption) (selA_g (by assumption)))), hB353, hk358⟩
     ·
      rw [hc352] at h351
      refine co_true h351 rfl ?_
      refine co_reg ?_
      refine pk0 (v := u0) h351 rfl fun a359 h359 => ?_; clear h351
      have hk360 := hk345.below hb349
      refine pk (v := .agg #[.int .i64 y306.1, .int .i64 y306.2]) h359 rfl (rn_loadN rfl rfl Try.underlying114 rfl (by kernel_rfl) hk360.all) fun a361 h361 => ?_; clear h359
      refine pw h361 rfl (op_new (v := fun N => .slice (some ⟨N, 0, none⟩) 1 1) (T := 114) (cs := #[.int .i64 y306.1, .int .i64 y306.2]) (by kernel_rfl) (by kernel_rfl) (by kernel_rfl)) ?_; clear h361
      rintro _ w363 a362 ⟨N364, rfl, hN367, hz368, hk366, hg365⟩ h362
      have hr370 := row_kept_new hr340 (below_grown hb349)
      have ha369 := row_fresh hr370 hN367
      have hz371 := hg365.size
      try dsimp only at h362
      have hr377 := row_kept_new hr370 hg365
      refine pw h362 rfl (op_append rfl (N3 + 1) 114 (z := .agg #[.int .i64 0, .int .i64 0]) (size := 2) (bytes := 16) Try.underlying89 (by kernel_rfl) rfl rfl rfl hr377 rfl hk366 rfl (by kernel_rfl) (by first | omega | (simp only [List.length_nil, List.length_append, List.length_cons, List.length_take, List.length_drop]; omega)) (by first | omega | (simp only [List.length_nil, List.length_append, List.length_cons, List.length_take, List.length_drop]; omega)) (by omega)) ?_; clear h362
      rintro v374 w373 a372 ⟨hr375, hg376⟩ h372
      have hr375' : w373.ownsRow (N3 + 1) 114 2 v374 (((ms.take i).filter (selA lg gn) ++ [(y306.1, y306.2)]).length) (((ms.take i).filter (selA lg gn) ++ [(y306.1, y306.2)]).flatMap memE) := row_push (y := (y306.1, y306.2)) hr375 rfl rfl; clear hr375
      have hz378 := hg376.size
      refine pk0 (v := v374) h372 rfl fun a379 h379 => ?_; clear h372
      refine pl_nil ?_
      refine co_blockN ?_
      refine co_then ?_
      refine co_reg ?_
      refine pk0 (v := .int .i64 ((i : Nat) : Int)) h379 rfl fun a380 h380 => ?_; clear h379
      refine pk (v := .int .i64 ((i + 1 : Nat) : Int)) h380 rfl (rn_arith' rfl rfl rfl rfl rfl rfl (IntWalk.i64_in _ (by omega)) (by omega)) fun a381 h381 => ?_; clear h380
      refine pk0 (v := .int .i64 ((i + 1 : Nat) : Int)) h381 rfl fun a382 h382 => ?_; clear h381
      refine pl_nil ?_
      refine co_then ?_
      refine ⟨(ms.length - (i + 1)), by omega, ?_⟩
      have hB383 := hb_new hB353 hg365
      have hB384 := hb_row hB383 hr377 (by omega) hg376
      have hk385 := hk337.below hb349
      have hk386 := hk385.kept hg365 (by simp)
      have hk387 := hk386.kept hg376 (row_ne_lt hr377 (by omega))
      exact ⟨i + 1, v374, h382.sub ⟨rfl, rfl, rfl, rfl, rfl, rfl, rfl, trivial⟩, rfl, by omega, (row_eq hr375' (by first | rfl | exact filt_yes (by assumption) (selA_t (by assumption) (by assumption)) | exact filt_no (by assumption) (selA_f (by assumption)) | exact filt_no (by assumption) (selA_g (by assumption)))), hB384, hk387⟩
    ·
     rw [hc333] at h327
     refine pk0 (v := .bool false) h327 rfl fun a388 h388 => ?_; clear h327
     refine pk0 (v := .bool false) h388 rfl fun a389 h389 => ?_; clear h388
     refine psk h389 rfl fun a390 h390 => ?_; clear h389
     refine psk h390 rfl fun a391 h391 => ?_; clear h390
     refine psk h391 rfl fun a392 h392 => ?_; clear h391
     refine psk h392 rfl fun a393 h393 => ?_; clear h392
     refine pk0 (v := .bool false) h393 rfl fun a394 h394 => ?_; clear h393
     refine pl_nil ?_
     refine co_then ?_
     refine co_false h394 rfl ?_
     refine wp_skip ?_
     refine co_blockN ?_
     refine co_then ?_
     refine co_reg ?_
     refine pk0 (v := .int .i64 ((i : Nat) : Int)) h394 rfl fun a395 h395 => ?_; clear h394
     refine pk (v := .int .i64 ((i + 1 : Nat) : Int)) h395 rfl (rn_arith' rfl rfl rfl rfl rfl rfl (IntWalk.i64_in _ (by omega)) (by omega)) fun a396 h396 => ?_; clear h395
     refine pk0 (v := .int .i64 ((i + 1 : Nat) : Int)) h396 rfl fun a397 h397 => ?_; clear h396
     refine pl_nil ?_
     refine co_then ?_
     refine ⟨(ms.length - (i + 1)), by omega, ?_⟩
     exact ⟨i + 1, u0, h397.sub ⟨rfl, rfl, rfl, rfl, rfl, rfl, rfl, trivial⟩, rfl, by omega, (row_eq hr340 (by first | rfl | exact filt_yes (by assumption) (selA_t (by assumption) (by assumption)) | exact filt_no (by assumption) (selA_f (by assumption)) | exact filt_no (by assumption) (selA_g (by assumption)))), hB334, hk337⟩
end Go.Proofs.Ytcnahhobppnbbaa
