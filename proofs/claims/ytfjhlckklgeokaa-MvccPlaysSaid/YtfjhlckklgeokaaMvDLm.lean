/- Package mvcc: Scan. Conditions: at most 70000 keys, 800 versions each. -/
import Derived.Test.YtfjhlckklgeokaaMvCLm
import Derived.Scope
namespace Go.Proofs.Ytfjhlckklgeokaa
open Go.RowKit Go.PlainAid
set_option linter.unusedVariables false
set_option linter.unusedSimpArgs false


section
variable {Q : Exit → Act → World → Prop} {a : Act} {w : World}
theorem co_scopeN (h : Q .normal a w) : Exit.noGoto Q .normal a w := h
theorem co_scopeR (h : Q .ret a w) : Exit.noGoto Q .ret a w := h
end
abbrev PairT := ByteArray × ByteArray
def pairE (p : PairT) : List Value := [.string p.1, .string p.2]
theorem pairE_len (p : PairT) : (pairE p).length = 2 := rfl
theorem pairE_one (p : PairT) : ∀ u ∈ pairE p, u.oneCell' = true := by intro u hu; simp [pairE] at hu; rcases hu with rfl | rfl <;> rfl
def hits (f : Fv) (t : Int) (ks : List ByteArray) : List PairT := (ks.filter (fun k => (atS (f k) t).2)).map (fun k => (k, (atS (f k) t).1))
def scanL (H : List PairT) (most : Int) : List PairT := H.take most.toNat
def scanM (H : List PairT) (most : Int) : Bool := decide (most.toNat < H.length)
section
variable {f : Fv} {t most : Int} {ks : List ByteArray} {k : Nat} {y : ByteArray}
theorem hits_yes (hy : ks[k]? = some y) (h : (atS (f y) t).2 = true) : hits f t (ks.take k) ++ [(y, (atS (f y) t).1)] = hits f t (ks.take (k + 1)) := by
  unfold hits; rw [takeO_at hy, List.filter_append, List.map_append]; simp [List.filter_cons, h]
theorem hits_no (hy : ks[k]? = some y) (h : (atS (f y) t).2 = false) : hits f t (ks.take k) = hits f t (ks.take (k + 1)) := by
  unfold hits; rw [takeO_at hy, List.filter_append, List.map_append]; simp [List.filter_cons, h]
theorem hits_le : (hits f t (ks.take k)).length ≤ k := by
  unfold hits; rw [List.length_map]; exact Nat.le_trans (List.length_filter_le _ _) (by rw [List.length_take]; omega)
theorem scan_all {H : List PairT} (h : H = [] ∨ (H.length : Int) ≤ most) : H = scanL H most ∧ scanM H most = false := by
  unfold scanL scanM
  rcases h with rfl | h
  · simp
  · exact ⟨(List.take_of_length_le (by omega)).symm, decide_eq_false (by omega)⟩
theorem scan_cut (hy : ks[k]? = some y) (h : (atS (f y) t).2 = true) (hl : ¬ ((hits f t (ks.take k)).length : Int) < most) (hm : hits f t (ks.take k) = [] ∨ ((hits f t (ks.take k)).length : Int) ≤ most) : hits f t (ks.take k) = scanL (hits f t ks) most ∧ scanM (hits f t ks) most = true := by
  have e : hits f t ks = hits f t (ks.take k) ++ (y, (atS (f y) t).1) :: hits f t (ks.drop (k + 1)) := by
    have e1 : ks = ks.take (k + 1) ++ ks.drop (k + 1) := (List.take_append_drop _ _).symm
    have e2 : hits f t ks = hits f t (ks.take (k + 1)) ++ hits f t (ks.drop (k + 1)) := by
      conv => lhs; rw [e1]
      unfold hits; rw [List.filter_append, List.map_append]
    rw [e2, ← hits_yes hy h]; simp
  have hn : most.toNat = (hits f t (ks.take k)).length := by
    rcases hm with hm | hm
    · rw [hm] at hl ⊢; simp at hl ⊢; omega
    · omega
  unfold scanL scanM
  rw [hn, e]
  exact ⟨by simp, decide_eq_true (by simp)⟩
end

set_option maxRecDepth 100000 in
set_option maxHeartbeats 3200000 in
theorem mscan_blk (S : Nat → Prop) (b : Nat) (tb : Nat) (K : List ByteArray) (f : Fv) (la : Int) (ce : Int) (n : Nat) (F : ByteArray) (T : ByteArray) (t : Int) (most : Int) (w : World) (hB : Blk w b 57 #[.bool true, pt tb 0, .int .u64 la, .int .i64 ce]) (hV : VkO S w tb K f) (hSb : ¬ S b) (hF : FOk f la n) (hn : n ≤ 800) (hla : 0 ≤ la ∧ la < 18446744073709551616) (hce : -100000000000 ≤ ce ∧ ce ≤ 100000000000) (hK : K.length ≤ 70000) (hmost : -9223372036854775808 ≤ most ∧ most ≤ 9223372036854775807) :
    Calls Try.prog 20 #[pt b 0, .string F, .string T, .int .u64 t, .int .i64 most] w fun e w' => ∃ (u : Value), e = .returned (.tuple #[u, .bool (scanM (hits f t (K.filter (inR F T))) most)]) ∧ w'.ownsRow w.heap.size 51 2 u (scanL (hits f t (K.filter (inR F T))) most).length ((scanL (hits f t (K.filter (inR F T))) most).flatMap pairE) ∧ Below w.heap.size w w' := by
 have hB0 := Below.refl w.heap.size w
 have hl_hB := hB.lt
 have hofS := VkO.ofS hV
 refine co_enter (n := 54) Try.func20 rfl rfl rfl [(0, pt b 0), (1, .string F), (2, .string T), (3, .int .u64 t), (4, .int .i64 most)] rfl (fun a h0 => ?_)
 refine co_seq ?_
 refine co_reg ?_
 refine pk0 (v := .slice none 0 0) h0 rfl fun a1 h1 => ?_; clear h0
 refine pk0 (v := .bool false) h1 rfl fun a2 h2 => ?_; clear h1
 refine pl_nil ?_
 refine co_then ?_
 refine wp_scope_straight ?_
 refine co_seq ?_
 refine co_seq ?_
 refine co_reg ?_
 refine pk0 (v := pt b 0) h2 rfl fun a3 h3 => ?_; clear h2
 refine pw h3 rfl (op_call (args := #[pt b 0]) (R := fun res xw => res = .bool false ∧ w = xw) rfl rfl rfl (by kernel_rfl) (by kernel_rfl) (Try.call25 _ _) (mzero_any b (pt tb 0) (.int .u64 la) (.int .i64 ce) w hB) (by rintro e x ⟨rfl, rfl⟩; exact ⟨_, rfl, rfl, rfl⟩)) ?_; clear h3
 rintro _ _ a4 ⟨rfl, rfl⟩ h4
 refine pl_nil ?_
 refine co_then ?_
 refine co_false h4 rfl ?_
 refine wp_skip ?_
 refine co_then ?_
 refine co_seq ?_
 refine co_reg ?_
 refine pk0 (v := .slice none 0 0) h4 rfl fun a6 h6 => ?_; clear h4
 refine pl_nil ?_
 refine co_then ?_
 refine co_seq ?_
 refine co_reg ?_
 refine pk0 (v := .bool false) h6 rfl fun a7 h7 => ?_; clear h6
 refine pl_nil ?_
 refine co_then ?_
 refine co_seq ?_
 refine wp_label ?_
 refine co_then ?_
 refine co_seq ?_
 refine co_seq ?_
 refine co_reg ?_
 refine pk0 (v := pt b 0) h7 rfl fun a8 h8 => ?_; clear h7
 refine pk0 (v := pt b 0) h8 rfl fun a9 h9 => ?_; clear h8
 refine pk0 (v := pt b 1) h9 rfl fun a10 h10 => ?_; clear h9
 refine pk (v := pt tb 0) h10 rfl (rn_load1 rfl rfl Try.isAgg55 (hB.cell rfl)) fun a11 h11 => ?_; clear h10
 refine pk0 (v := .string F) h11 rfl fun a12 h12 => ?_; clear h11
 refine pk0 (v := .string T) h12 rfl fun a13 h13 => ?_; clear h12
 have ho21 := VkO.ofS hV
 refine pw h13 rfl (op_call (args := #[pt tb 0, .string F, .string T]) (R := fun res xw => ∃ (ao : Option Addr) (nn cap : Nat), res = .slice ao nn cap ∧ xw.ownsRow w.heap.size 9 1 (.slice ao nn cap) (K.filter (inR F T)).length ((K.filter (inR F T)).flatMap strE) ∧ Below w.heap.size w xw) rfl rfl rfl (by kernel_rfl) (by kernel_rfl) (Try.call32 _ _) (vkeys2_any S w tb K f F T hV (by omega)) (by rintro e x ⟨ao, nn, cap, h0, h⟩; exact ⟨_, h0, ao, nn, cap, rfl, h⟩)) ?_; clear h13
 rintro _ w15 a14 ⟨ao16, nn17, cp18, rfl, hr19, hb20⟩ h14
 have hz22 := hb20.size
 have ho23 := VkO.ofS hV
 have hl24 : (K.filter (inR F T)).length ≤ K.length := List.length_filter_le _ _
 refine pk (v := .int .i64 (((K.filter (inR F T)).length : Nat) : Int)) h14 rfl (rn_lenOwn rfl rfl Try.underlying75 hr19) fun a25 h25 => ?_; clear h14
 refine pk0 (v := .int .i64 0) h25 rfl fun a26 h26 => ?_; clear h25
 refine pl_nil ?_
 refine co_then ?_
 refine wp_block ?_
 have h27 : Slots 54 [(0, pt b 0), (1, .string F), (2, .string T), (3, .int .u64 t), (4, .int .i64 most), (12, .slice none 0 0), (13, .bool false), (26, .slice ao16 nn17 cp18), (27, .int .i64 (((K.filter (inR F T)).length : Nat) : Int)), (28, .int .i64 0)] _ := h26.sub ⟨rfl, rfl, rfl, rfl, rfl, rfl, rfl, rfl, rfl, rfl, trivial⟩; clear h26
 refine co_loop (fun mm a x => ∃ (k : Nat) (u : Value), Slots 54 [(0, pt b 0), (1, .string F), (2, .string T), (3, .int .u64 t), (4, .int .i64 most), (12, u), (13, .bool false), (26, .slice ao16 nn17 cp18), (27, .int .i64 (((K.filter (inR F T)).length : Nat) : Int)), (28, .int .i64 ((k : Nat) : Int))] a ∧ mm = (K.filter (inR F T)).length - k ∧ (k ≤ (K.filter (inR F T)).length) ∧ ((hits f t ((K.filter (inR F T)).take k)) = [] ∨ ((hits f t ((K.filter (inR F T)).take k)).length : Int) ≤ most) ∧ Blk x b 57 #[.bool true, pt tb 0, .int .u64 la, .int .i64 ce] ∧ VkO S x tb K f ∧ x.ownsRow w.heap.size 9 1 (.slice ao16 nn17 cp18) (K.filter (inR F T)).length ((K.filter (inR F T)).flatMap strE) ∧ x.ownsRow w.heap.size 51 2 u (hits f t ((K.filter (inR F T)).take k)).length ((hits f t ((K.filter (inR F T)).take k)).flatMap pairE) ∧ Below w.heap.size w x) ((K.filter (inR F T)).length - 0) ?_ ?_
 have hk28 := hB.below hb20
 have hO29 := VkO.gr hV (below_grown hb20) (fun k e => by cases e)
 have hB30 := hb_call hB0 hb20
 · exact ⟨0, (.slice none 0 0), h27.sub ⟨rfl, rfl, rfl, rfl, rfl, rfl, rfl, rfl, rfl, (slot_eq rfl (congrArg (Value.int .i64) (by first | rfl | omega))), trivial⟩, rfl, by omega, by first | exact .inl rfl | (rw [← hits_yes (by assumption) (by assumption)]; right; rw [List.length_append, List.length_singleton]; omega) | (rw [← hits_no (by assumption) (by assumption)]; assumption), hk28, hO29, hr19, (row_nilL _ _ _ _ _), hB30⟩
 · rintro k31 a32 w33 ⟨k, u, h32, rfl, hi34, hi35, hf36, hf37, hf38, hf39, hB40⟩
   have hz41 := hB40.size
   have hl42 := hf36.lt
   have hhl := hits_le (f := f) (t := t) (ks := (K.filter (inR F T))) (k := k)
   refine co_seq ?_
   refine co_reg ?_
   refine pk0 (v := .bool (decide (((k : Nat) : Int) < (((K.filter (inR F T)).length : Nat) : Int)))) h32 rfl fun a43 h43 => ?_; clear h32
   refine pl_nil ?_
   refine co_then ?_
   refine co_seq ?_
   cases hc44 : (decide (((k : Nat) : Int) < (((K.filter (inR F T)).length : Nat) : Int)))
   ·
    rw [hc44] at h43
    have hp45 : ¬ (((k : Nat) : Int) < (((K.filter (inR F T)).length : Nat) : Int)) := of_decide_eq_false hc44
    clear hc44
    refine co_false h43 rfl ?_
    refine wp_exit ?_
    refine co_thenX ?_
    refine co_thenX ?_
    refine co_blockX ?_
    refine co_then ?_
    refine co_seq ?_
    refine co_reg ?_
    refine pk0 (v := u) h43 rfl fun a46 h46 => ?_; clear h43
    refine pk0 (v := .bool false) h46 rfl fun a47 h47 => ?_; clear h46
    refine pk0 (v := u) h47 rfl fun a48 h48 => ?_; clear h47
    refine pk0 (v := .bool false) h48 rfl fun a49 h49 => ?_; clear h48
    refine pl_nil ?_
    refine co_then ?_
    refine wp_ret ?_
    refine co_scopeR ?_
    refine co_ret2 h49 rfl rfl rfl ?_
    have hk9 : (K.filter (inR F T)).take k = (K.filter (inR F T)) := List.take_of_length_le (by omega); have hq := scan_all (most := most) (H := hits f t ((K.filter (inR F T)).take k)) (by assumption); rw [hk9] at hq
    exact ⟨_, by rw [hq.2], row_eq hf39 (by rw [hk9]; exact hq.1), hB40⟩
   ·
    rw [hc44] at h43
    have hp50 : ((k : Nat) : Int) < (((K.filter (inR F T)).length : Nat) : Int) := of_decide_eq_true hc44
    clear hc44
    refine co_true h43 rfl ?_
    refine wp_skip ?_
    refine co_then ?_
    refine co_seq ?_
    refine wp_block ?_
    refine co_seq ?_
    refine co_reg ?_
    obtain ⟨y51, hy51⟩ : ∃ z, (K.filter (inR F T))[k]? = some z := ⟨_, List.getElem?_eq_getElem (by first | omega | (simp; done) | (simp; omega))⟩
    refine pk (v := pt (blkOf (.slice ao16 nn17 cp18)) (offOf (.slice ao16 nn17 cp18) + k * 1)) h43 rfl (rn_index rfl rfl rfl Try.underlying75 Try.sizeOf9 (row_sl hf38 strE_len) (by omega) (by first | omega | (simp; done) | (simp; omega))) fun a52 h52 => ?_; clear h43
    refine pk (v := .string y51) h52 rfl (rn_load1 rfl rfl Try.isAgg9 ((sl_at (row_sl hf38 strE_len) hy51) 0 _ rfl)) fun a53 h53 => ?_; clear h52
    refine pk0 (v := .string y51) h53 rfl fun a54 h54 => ?_; clear h53
    refine pl_nil ?_
    refine co_then ?_
    refine co_seq ?_
    refine co_reg ?_
    refine pk0 (v := pt b 0) h54 rfl fun a55 h55 => ?_; clear h54
    refine pk0 (v := .string y51) h55 rfl fun a56 h56 => ?_; clear h55
    refine pk0 (v := .int .u64 t) h56 rfl fun a57 h57 => ?_; clear h56
    refine pw h57 rfl (op_call (args := #[pt b 0, .string y51, .int .u64 t]) (R := fun res xw => res = .tuple #[.string (atS (f y51) t).1, .bool (atS (f y51) t).2] ∧ Below w33.heap.size w33 xw) rfl rfl rfl (by kernel_rfl) (by kernel_rfl) (Try.call19 _ _) (mget_blk b tb (.int .u64 la) (.int .i64 ce) S K f y51 t la n w33 hf36 hf37 hF) (by rintro e x ⟨rfl, h⟩; exact ⟨_, rfl, rfl, h⟩)) ?_; clear h57
    rintro _ w59 a58 ⟨rfl, hb60⟩ h58
    have hz61 := hb60.size
    have ho62 := VkO.ofS hf37
    refine pk0 (v := .tuple #[.string ((atS (f y51) t).1), .bool ((atS (f y51) t).2)]) h58 rfl fun a63 h63 => ?_; clear h58
    refine pk0 (v := .string ((atS (f y51) t).1)) h63 rfl fun a64 h64 => ?_; clear h63
    refine pk0 (v := .bool ((atS (f y51) t).2)) h64 rfl fun a65 h65 => ?_; clear h64
    refine pk0 (v := .string ((atS (f y51) t).1)) h65 rfl fun a66 h66 => ?_; clear h65
    refine pk0 (v := .bool ((atS (f y51) t).2)) h66 rfl fun a67 h67 => ?_; clear h66
    refine pl_nil ?_
    refine co_then ?_
    refine co_seq ?_
    refine co_seq ?_
    refine co_reg ?_
    refine pk0 (v := .bool ((atS (f y51) t).2)) h67 rfl fun a68 h68 => ?_; clear h67
    have hB70 := hb_call hB40 hb60
    cases hc69 : ((atS (f y51) t).2)
    ·
     rw [hc69] at h68
     refine pk0 (v := .bool true) h68 rfl fun a71 h71 => ?_; clear h68
     refine pl_nil ?_
     refine co_then ?_
     refine co_true h71 rfl ?_
     refine wp_exit ?_
     refine co_thenX ?_
     refine co_blockX ?_
     refine co_then ?_
     refine co_reg ?_
     refine pk (v := .int .i64 ((k + 1 : Nat) : Int)) h71 rfl (rn_arith' rfl rfl rfl rfl rfl rfl (IntWalk.i64_in _ (by omega)) (by omega)) fun a72 h72 => ?_; clear h71
     refine pk0 (v := .int .i64 ((k + 1 : Nat) : Int)) h72 rfl fun a73 h73 => ?_; clear h72
     refine pl_nil ?_
     refine co_then ?_
     refine ⟨((K.filter (inR F T)).length - (k + 1)), by omega, ?_⟩
     have hk74 := hf36.below hb60
     have hO75 := VkO.gr hf37 (below_grown hb60) (fun k e => by cases e)
     have hr76 := row_kept_new hf38 (below_grown hb60)
     have hr77 := row_kept_new hf39 (below_grown hb60)
     exact ⟨k + 1, u, h73.sub ⟨rfl, rfl, rfl, rfl, rfl, rfl, rfl, rfl, rfl, rfl, trivial⟩, rfl, by omega, by first | exact .inl rfl | (rw [← hits_yes (by assumption) (by assumption)]; right; rw [List.length_append, List.length_singleton]; omega) | (rw [← hits_no (by assumption) (by assumption)]; assumption), hk74, hO75, hr76, (row_eq hr77 (by first | rfl | exact hits_yes (by assumption) (by assumption) | exact hits_no (by assumption) (by assumption) | exact hits_no (by assumption) (by simpa using (by assumption)))), hB70⟩
    ·
     rw [hc69] at h68
     refine pk0 (v := .bool false) h68 rfl fun a78 h78 => ?_; clear h68
     refine pl_nil ?_
     refine co_then ?_
     refine co_false h78 rfl ?_
     refine wp_skip ?_
     refine co_then ?_
     refine co_seq ?_
     refine co_seq ?_
     refine co_reg ?_
     refine pk0 (v := u) h78 rfl fun a79 h79 => ?_; clear h78
     have hr80 := row_kept_new hf39 (below_grown hb60)
     refine pk (v := .int .i64 (((hits f t ((K.filter (inR F T)).take k)).length : Nat) : Int)) h79 rfl (rn_lenOwn rfl rfl Try.underlying44 hr80) fun a81 h81 => ?_; clear h79
     refine pk0 (v := .int .i64 most) h81 rfl fun a82 h82 => ?_; clear h81
     refine pk0 (v := .bool (decide ((((hits f t ((K.filter (inR F T)).take k)).length : Nat) : Int) ≥ most))) h82 rfl fun a83 h83 => ?_; clear h82
     refine pl_nil ?_
     refine co_then ?_
     cases hc84 : (decide ((((hits f t ((K.filter (inR F T)).take k)).length : Nat) : Int) ≥ most))
     ·
      rw [hc84] at h83
      have hp85 : ¬ ((((hits f t ((K.filter (inR F T)).take k)).length : Nat) : Int) ≥ most) := of_decide_eq_false hc84
      clear hc84
      refine co_false h83 rfl ?_
      refine wp_skip ?_
      refine co_then ?_
      refine co_reg ?_
      refine pk0 (v := u) h83 rfl fun a86 h86 => ?_; clear h83
      refine pk0 (v := .string y51) h86 rfl fun a87 h87 => ?_; clear h86
      refine pk0 (v := .string ((atS (f y51) t).1)) h87 rfl fun a88 h88 => ?_; clear h87
      refine pk0 (v := .agg #[.string y51, .string ((atS (f y51) t).1)]) h88 rfl fun a89 h89 => ?_; clear h88
      refine pw h89 rfl (op_new (v := fun N => .slice (some ⟨N, 0, none⟩) 1 1) (T := 51) (cs := #[.string y51, .string ((atS (f y51) t).1)]) (by kernel_rfl) (by kernel_rfl) (by kernel_rfl)) ?_; clear h89
      rintro _ w91 a90 ⟨N92, rfl, hN95, hz96, hk94, hg93⟩ h90
      have hr98 := row_kept_new hf38 (below_grown hb60)
      have ha97 := row_fresh hr98 hN95
      have ha99 := row_fresh hr80 hN95
      have hz100 := hg93.size
      have hO102 := VkO.gr hf37 (below_grown hb60) (fun k e => by cases e)
      have ho101 := off_new (VkO.ofS hO102) hN95
      try dsimp only at h90
      have hr109 := row_kept_new hr80 hg93
      refine pw h90 rfl (op_append rfl w.heap.size 51 (z := .agg #[.string (⟨#[]⟩), .string (⟨#[]⟩)]) (size := 2) (bytes := 32) Try.underlying44 (by kernel_rfl) rfl rfl rfl hr109 rfl hk94 rfl (by kernel_rfl) (by first | omega | (simp only [List.length_nil, List.length_append, List.length_cons, List.length_take, List.length_drop]; omega)) (by first | omega | (simp only [List.length_nil, List.length_append, List.length_cons, List.length_take, List.length_drop]; omega)) (by omega)) ?_; clear h90
      rintro v105 w104 a103 ⟨hr106, hg107⟩ h103
      have hr106' : w104.ownsRow w.heap.size 51 2 v105 (((hits f t ((K.filter (inR F T)).take k)) ++ [(y51, (atS (f y51) t).1)]).length) (((hits f t ((K.filter (inR F T)).take k)) ++ [(y51, (atS (f y51) t).1)]).flatMap pairE) := row_push (y := (y51, (atS (f y51) t).1)) hr106 rfl rfl; clear hr106
      have hz110 := hg107.size
      refine pk0 (v := v105) h103 rfl fun a111 h111 => ?_; clear h103
      refine pl_nil ?_
      refine co_blockN ?_
      refine co_then ?_
      refine co_reg ?_
      refine pk (v := .int .i64 ((k + 1 : Nat) : Int)) h111 rfl (rn_arith' rfl rfl rfl rfl rfl rfl (IntWalk.i64_in _ (by omega)) (by omega)) fun a112 h112 => ?_; clear h111
      refine pk0 (v := .int .i64 ((k + 1 : Nat) : Int)) h112 rfl fun a113 h113 => ?_; clear h112
      refine pl_nil ?_
      refine co_then ?_
      refine ⟨((K.filter (inR F T)).length - (k + 1)), by omega, ?_⟩
      have hk114 := hf36.below hb60
      have hk115 := hk114.kept hg93 (by simp)
      have hk116 := hk115.kept hg107 (own_neT hr109 hk115 (by decide))
      have hO117 := VkO.gr hO102 hg93 (fun k e => by cases e)
      have hO118 := VkO.gr hO117 hg107 (fun k e => (offR_row hofS hr109 (Nat.le_refl _)) k e)
      have hr119 := row_kept_new hr98 hg93
      have hr120 := row_kept_row hr119 hr109 hg107 (by decide)
      have hB121 := hb_new hB70 hg93
      have hB122 := hb_row hB121 hr109 (by omega) hg107
      exact ⟨k + 1, v105, h113.sub ⟨rfl, rfl, rfl, rfl, rfl, rfl, rfl, rfl, rfl, rfl, trivial⟩, rfl, by omega, by first | exact .inl rfl | (rw [← hits_yes (by assumption) (by assumption)]; right; rw [List.length_append, List.length_singleton]; omega) | (rw [← hits_no (by assumption) (by assumption)]; assumption), hk116, hO118, hr120, (row_eq hr106' (by first | rfl | exact hits_yes (by assumption) (by assumption) | exact hits_no (by assumption) (by assumption) | exact hits_no (by assumption) (by simpa using (by assumption)))), hB122⟩
     ·
      rw [hc84] at h83
      have hp123 : (((hits f t ((K.filter (inR F T)).take k)).length : Nat) : Int) ≥ most := of_decide_eq_true hc84
      clear hc84
      refine co_true h83 rfl ?_
      refine co_seq ?_
      refine co_reg ?_
      refine pk0 (v := .bool true) h83 rfl fun a124 h124 => ?_; clear h83
      refine pl_nil ?_
      refine co_then ?_
      refine wp_exit ?_
      refine co_thenX ?_
      refine co_blockY (by decide) ?_
      refine co_thenX ?_
      refine co_thenX ?_
      refine co_blockX ?_
      refine co_then ?_
      refine co_seq ?_
      refine co_reg ?_
      refine pk0 (v := u) h124 rfl fun a125 h125 => ?_; clear h124
      refine pk0 (v := .bool true) h125 rfl fun a126 h126 => ?_; clear h125
      refine pk0 (v := u) h126 rfl fun a127 h127 => ?_; clear h126
      refine pk0 (v := .bool true) h127 rfl fun a128 h128 => ?_; clear h127
      refine pl_nil ?_
      refine co_then ?_
      refine wp_ret ?_
      refine co_scopeR ?_
      refine co_ret2 h128 rfl rfl rfl ?_
      have hq := scan_cut (most := most) (by assumption) (by assumption : (atS (f _) t).2 = true) (by omega) (by assumption)
      exact ⟨_, by rw [hq.2], row_eq hr80 hq.1, hB70⟩
end Go.Proofs.Ytfjhlckklgeokaa
