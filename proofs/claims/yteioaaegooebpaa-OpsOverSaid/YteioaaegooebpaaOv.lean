/- Put together: OpsP, OpsQ, OpsR. Conditions: as each says. -/
import Derived.Test.YteioaaegooebpaaOpsI
import Derived.Test.YteioaaegooebpaaKeysS
import Derived.Test.YteioaaegooebpaaOpsK
import Derived.Test.YteioaaegooebpaaOpsL
import Derived.Test.YteioaaegooebpaaOpsN0
/- The document's own ops: Norm. Conditions: at most 1000 operations. -/
namespace Go.Proofs.Yteioaaegooebpaa
open Go.RowKit Go.PlainAid
set_option linter.unusedVariables false

open Go.Sort Go.Shelf Go.Lib

theorem strE_len (y : ByteArray) : (strE y).length = 1 := rfl
theorem strE_one1 (y : ByteArray) : ∀ u ∈ strE y, u.oneCell' = true := by intro u hu; simp [strE] at hu; subst hu; rfl
theorem rkeysSet_any (v : Value) (l : List ByteArray) (w : World) (hs : SliceOf strE 1 w v l) (hl : l.length ≤ 1000) :
    Calls Try.prog 54 #[v] w fun e w' => ∃ (ys : List ByteArray) (u : Value), e = .returned (u) ∧ w'.ownsRow w.heap.size 9 1 u ys.length (ys.flatMap strE) ∧ SetOf ys l ∧ ys.length ≤ l.length ∧ Below w.heap.size w w' :=
  (rset_any v l w hs hl).mono (by rintro e x ⟨u, ys, rfl, ⟨h1, h2⟩, h3, h4⟩; exact ⟨ys, u, rfl, h3, h1, h2, h4⟩)
def zOp : OpT := (⟨#[]⟩, ⟨#[]⟩, false)
/-- The last operation with a key. -/
def lastD (l : List OpT) (k : ByteArray) : OpT := (lastG l k).getD zOp
theorem toList_inj {a b : ByteArray} (h : a.toList = b.toList) : a = b := by
  rw [Go.ByteArray.toList_eq, Go.ByteArray.toList_eq] at h
  exact kb_inj h
theorem lastD_yes {l : List OpT} {i : Nat} {z : OpT} {k : ByteArray} (h : l[i]? = some z) (hk : (z.1.toList == k.toList) = true) : lastD (l.take (i + 1)) k = z := by
  have e : z.1 = k := toList_inj (by simpa using hk)
  unfold lastD; rw [takeO_at h, lastG_snoc]; unfold lastF; rw [if_pos e.symm]; rfl
theorem lastD_no {l : List OpT} {i : Nat} {z : OpT} {k : ByteArray} (h : l[i]? = some z) (hk : (z.1.toList == k.toList) = false) : lastD (l.take (i + 1)) k = lastD (l.take i) k := by
  have e : ¬ k = z.1 := fun e => by subst e; simp at hk
  unfold lastD; rw [takeO_at h, lastG_snoc]; unfold lastF; rw [if_neg e]
theorem blk_zOp {w : World} {N : Nat} {T : TypeId} (l : List OpT) (k : ByteArray) (h : Blk w N T #[.string ⟨#[]⟩, .string ⟨#[]⟩, .bool false]) : Blk w N T #[.string (lastD (l.take 0) k).1, .string (lastD (l.take 0) k).2.1, .bool (lastD (l.take 0) k).2.2] := h
theorem lastG_mem (l : List OpT) : ∀ k, (∃ v, lastG l k = some v) ↔ k ∈ l.map (·.1) := by
  refine snoc_ind (C := fun l => ∀ k, (∃ v, lastG l k = some v) ↔ k ∈ l.map (·.1)) (fun k => by simp [lastG]) (fun l o ih k => ?_) l
  rw [lastG_snoc, List.map_append, List.mem_append]
  unfold lastF
  by_cases e : k = o.1
  · subst e; simp
  · rw [if_neg e, ih k]; simp [e]
theorem SetOf.mem {ys m : List ByteArray} (h : SetOf ys m) (x : ByteArray) : x ∈ ys ↔ x ∈ m := by
  have := h.2 (kb x)
  constructor
  · intro hx
    obtain ⟨y, hy, e⟩ := List.mem_map.1 (this.1 (List.mem_map_of_mem hx))
    rwa [← kb_inj e]
  · intro hx
    obtain ⟨y, hy, e⟩ := List.mem_map.1 (this.2 (List.mem_map_of_mem hx))
    rwa [← kb_inj e]
theorem norm_set {l : List OpT} {ys : List ByteArray} (h : SetOf ys (l.map (·.1))) : SetG (fun y : OpT => y.1) (lastG l) (ys.map (lastD l)) := by
  have hk : ∀ y ∈ ys, lastG l y = some (lastD l y) ∧ (lastD l y).1 = y := fun y hy => by
    obtain ⟨v, hv⟩ := (lastG_mem l y).2 ((h.mem y).1 hy)
    unfold lastD; rw [hv]; exact ⟨rfl, lastG_key l y v hv⟩
  refine ⟨?_, fun y => ?_⟩
  · have hp : ys.Pairwise fun a b => kB a < kB b := List.pairwise_map.1 h.1
    rw [List.pairwise_map]
    exact hp.imp_of_mem (fun {a b} ha hb hab => by show kB (lastD l a).1 < kB (lastD l b).1; rw [(hk a ha).2, (hk b hb).2]; exact hab)
  · rw [List.mem_map]
    constructor
    · rintro ⟨k, hk1, rfl⟩; exact ⟨k, (hk k hk1).1⟩
    · rintro ⟨k, hv⟩
      have hm : k ∈ ys := (h.mem k).2 ((lastG_mem l k).1 ⟨y, hv⟩)
      exact ⟨k, hm, by unfold lastD; rw [hv]; rfl⟩
theorem map_snoc {α β : Type} {f : α → β} {l : List α} {i : Nat} {y : α} (h : l[i]? = some y) : (l.take i).map f ++ [f y] = (l.take (i + 1)).map f := by rw [takeO_at h]; simp

set_option maxRecDepth 100000 in
theorem ropsNorm_any (v : Value) (l : List OpT) (w : World) (hs : SliceOf opE 3 w v l) (hlen : l.length ≤ 1000) :
    Calls Try.prog 15 #[v] w fun e w' => ∃ (ys : List OpT) (u : Value), e = .returned (u) ∧ w'.ownsRow w.heap.size 86 3 u ys.length (ys.flatMap opE) ∧ SetG (fun y : OpT => y.1) (lastG l) ys ∧ ys.length ≤ l.length ∧ Below w.heap.size w w' := by
  have hB0 := Below.refl w.heap.size w
  have hl_hs := sl_len hs
  refine co_enter (n := 57) Try.func15 rfl rfl rfl [(0, v)] rfl (fun a h0 => ?_)
  refine co_seq ?_
  refine co_reg ?_
  refine pl_val (v := .slice none 0 0) h0 rfl rfl rfl (by kernel_rfl) (by kernel_rfl) (by kernel_rfl) (fun a1 h1 => ?_); clear h0
  refine pl_nil ?_
  refine co_then ?_
  refine co_seq ?_
  refine co_reg ?_
  refine pl_val (v := .slice none 0 0) h1 rfl rfl rfl (by kernel_rfl) (by kernel_rfl) (by kernel_rfl) (fun a2 h2 => ?_); clear h1
  refine pl_nil ?_
  refine co_then ?_
  refine co_seq ?_
  refine co_seq ?_
  refine co_reg ?_
  refine pl_val (v := .int .i64 0) h2 rfl rfl rfl (by kernel_rfl) (by kernel_rfl) (by kernel_rfl) (fun a3 h3 => ?_); clear h2
  refine pl_nil ?_
  refine co_then ?_
  refine wp_block ?_
  have h4 : Slots 57 [(0, v), (3, .slice none 0 0), (4, .int .i64 0)] _ := h3.sub ⟨rfl, rfl, rfl, trivial⟩; clear h3
  refine co_loop (fun mm a x => ∃ (i : Nat) (u : Value), Slots 57 [(0, v), (3, u), (4, .int .i64 ((i : Nat) : Int))] a ∧ mm = l.length - i ∧ (i ≤ l.length) ∧ x.ownsRow w.heap.size 9 1 u ((l.take i).map (·.1)).length (((l.take i).map (·.1)).flatMap strE) ∧ Below w.heap.size w x) (l.length - 0) ?_ ?_
  · exact ⟨0, (.slice none 0 0), h4.sub ⟨rfl, rfl, (slot_eq rfl (congrArg (Value.int .i64) (by first | rfl | omega))), trivial⟩, rfl, by omega, (row_nilL _ _ _ _ _), hB0⟩
  · rintro k5 a6 w7 ⟨i, u, h6, rfl, hi8, hf9, hB10⟩
    have hz11 := hB10.size
    have hst : (l.take i).length ≤ i := List.length_take_le _ _; have hst2 : ((l.take i).map (·.1)).length ≤ i := by rw [List.length_map]; exact hst
    refine co_seq ?_
    refine co_seq ?_
    refine co_reg ?_
    refine pl_val (v := .int .i64 ((i : Nat) : Int)) h6 rfl rfl rfl (by kernel_rfl) (by kernel_rfl) (by kernel_rfl) (fun a12 h12 => ?_); clear h6
    refine pl_val (v := v) h12 rfl rfl rfl (by kernel_rfl) (by kernel_rfl) (by kernel_rfl) (fun a13 h13 => ?_); clear h12
    refine pl_val (v := .int .i64 ((l.length : Nat) : Int)) h13 rfl rfl rfl (by kernel_rfl) (by kernel_rfl) (rn_len rfl rfl Try.underlying23 (hs.below hB10)) (fun a14 h14 => ?_); clear h13
    refine pl_val (v := .bool (decide (((i : Nat) : Int) < ((l.length : Nat) : Int)))) h14 rfl rfl rfl (by kernel_rfl) (by kernel_rfl) (by kernel_rfl) (fun a15 h15 => ?_); clear h14
    refine pl_nil ?_
    refine co_then ?_
    cases hc16 : (decide (((i : Nat) : Int) < ((l.length : Nat) : Int)))
    ·
      rw [hc16] at h15
      have hp17 : ¬ (((i : Nat) : Int) < ((l.length : Nat) : Int)) := of_decide_eq_false hc16
      clear hc16
      refine co_false h15 rfl ?_
      refine wp_exit ?_
      refine co_thenX ?_
      refine co_thenX ?_
      refine co_blockX ?_
      refine co_then ?_
      refine co_seq ?_
      refine co_reg ?_
      refine pl_val (v := u) h15 rfl rfl rfl (by kernel_rfl) (by kernel_rfl) (by kernel_rfl) (fun a18 h18 => ?_); clear h15
      refine pl_want h18 rfl rfl rfl (op_call (args := #[u]) (R := fun res xw => ∃ ys : List ByteArray, ∃ u : Value, res = u ∧ xw.ownsRow w7.heap.size 9 1 u ys.length (ys.flatMap strE) ∧ SetOf ys ((l.take i).map (·.1)) ∧ ys.length ≤ ((l.take i).map (·.1)).length ∧ Below w7.heap.size w7 xw) rfl rfl rfl (by kernel_rfl) (by kernel_rfl) (Try.call54 _ _) (rkeysSet_any u ((l.take i).map (·.1)) w7 (row_sl hf9 strE_len) (by rw [List.length_map, List.length_take]; omega)) (by rintro e x ⟨ys, u, rfl, hq23, hq24, hq25, hb26⟩; exact ⟨_, rfl, ⟨ys, u, rfl, hq23, hq24, hq25, hb26⟩⟩)) ?_; clear h18
      rintro u22 w20 a19 ⟨ys21, _, rfl, hq23, hq24, hq25, hb26⟩ h19
      have hB27 := hb_call hB10 hb26
      have hz28 := hB27.size
      have hz29 := hb26.size
      have hr30 := row_kept_new hf9 (below_grown hb26)
      have hl31 := sl_len (row_sl hq23 strE_len)
      refine pl_val (v := u22) h19 rfl rfl rfl (by kernel_rfl) (by kernel_rfl) (by kernel_rfl) (fun a32 h32 => ?_); clear h19
      refine pl_nil ?_
      refine co_then ?_
      refine co_seq ?_
      refine co_reg ?_
      refine pl_val (v := .slice none 0 0) h32 rfl rfl rfl (by kernel_rfl) (by kernel_rfl) (by kernel_rfl) (fun a33 h33 => ?_); clear h32
      refine pl_nil ?_
      refine co_then ?_
      refine co_seq ?_
      refine co_seq ?_
      refine co_reg ?_
      refine pl_val (v := .int .i64 0) h33 rfl rfl rfl (by kernel_rfl) (by kernel_rfl) (by kernel_rfl) (fun a34 h34 => ?_); clear h33
      refine pl_nil ?_
      refine co_then ?_
      refine wp_block ?_
      have hall : l.take i = l := List.take_of_length_le (by omega)
      have hset : SetOf ys21 (l.map (·.1)) := by have := hq24; rwa [hall] at this
      have hysl : ys21.length ≤ l.length := by have h := (by assumption : ys21.length ≤ ((l.take i).map (·.1)).length); rw [List.length_map, hall] at h; exact h
      have h35 : Slots 57 [(0, v), (3, u22), (5, .slice none 0 0), (6, .int .i64 0)] _ := h34.sub ⟨rfl, rfl, rfl, rfl, trivial⟩; clear h34
      refine co_loop (fun mm a x => ∃ (j : Nat) (u2 : Value), Slots 57 [(0, v), (3, u22), (5, u2), (6, .int .i64 ((j : Nat) : Int))] a ∧ mm = ys21.length - j ∧ (j ≤ ys21.length) ∧ x.ownsRow w7.heap.size 9 1 u22 ys21.length (ys21.flatMap strE) ∧ x.ownsRow w.heap.size 86 3 u2 ((ys21.take j).map (lastD l)).length (((ys21.take j).map (lastD l)).flatMap opE) ∧ Below w.heap.size w x) (ys21.length - 0) ?_ ?_
      · exact ⟨0, (.slice none 0 0), h35.sub ⟨rfl, rfl, rfl, (slot_eq rfl (congrArg (Value.int .i64) (by first | rfl | omega))), trivial⟩, rfl, by omega, hq23, (row_nilL _ _ _ _ _), hB27⟩
      · rintro k36 a37 w38 ⟨j, u2, h37, rfl, hi39, hf40, hf41, hB42⟩
        have hz43 := hB42.size
        have hst3 : ((ys21.take j).map (lastD l)).length ≤ j := by rw [List.length_map]; exact List.length_take_le _ _
        refine co_seq ?_
        refine co_seq ?_
        refine co_reg ?_
        refine pl_val (v := .int .i64 ((j : Nat) : Int)) h37 rfl rfl rfl (by kernel_rfl) (by kernel_rfl) (by kernel_rfl) (fun a44 h44 => ?_); clear h37
        refine pl_val (v := u22) h44 rfl rfl rfl (by kernel_rfl) (by kernel_rfl) (by kernel_rfl) (fun a45 h45 => ?_); clear h44
        refine pl_val (v := .int .i64 ((ys21.length : Nat) : Int)) h45 rfl rfl rfl (by kernel_rfl) (by kernel_rfl) (rn_lenOwn rfl rfl Try.underlying101 hf40) (fun a46 h46 => ?_); clear h45
        refine pl_val (v := .bool (decide (((j : Nat) : Int) < ((ys21.length : Nat) : Int)))) h46 rfl rfl rfl (by kernel_rfl) (by kernel_rfl) (by kernel_rfl) (fun a47 h47 => ?_); clear h46
        refine pl_nil ?_
        refine co_then ?_
        cases hc48 : (decide (((j : Nat) : Int) < ((ys21.length : Nat) : Int)))
        ·
          rw [hc48] at h47
          have hp49 : ¬ (((j : Nat) : Int) < ((ys21.length : Nat) : Int)) := of_decide_eq_false hc48
          clear hc48
          refine co_false h47 rfl ?_
          refine wp_exit ?_
          refine co_thenX ?_
          refine co_thenX ?_
          refine co_blockX ?_
          refine co_then ?_
          refine co_seq ?_
          refine co_reg ?_
          refine pl_val (v := u2) h47 rfl rfl rfl (by kernel_rfl) (by kernel_rfl) (by kernel_rfl) (fun a50 h50 => ?_); clear h47
          refine pl_val (v := u2) h50 rfl rfl rfl (by kernel_rfl) (by kernel_rfl) (by kernel_rfl) (fun a51 h51 => ?_); clear h50
          refine pl_nil ?_
          refine co_then ?_
          refine wp_ret ?_
          refine co_ret1 h51 rfl rfl ?_
          have hallj : ys21.take j = ys21 := List.take_of_length_le (by omega)
          exact ⟨_, _, rfl, (row_eq (row_lows hf41 (by omega)) (by rw [hallj])), norm_set hset, by rw [List.length_map]; omega, hB42⟩
        ·
          rw [hc48] at h47
          have hp52 : ((j : Nat) : Int) < ((ys21.length : Nat) : Int) := of_decide_eq_true hc48
          clear hc48
          refine co_true h47 rfl ?_
          refine wp_skip ?_
          refine co_then ?_
          refine co_seq ?_
          refine wp_block ?_
          refine co_seq ?_
          refine co_reg ?_
          refine pl_val (v := .agg #[.string (⟨#[]⟩), .string (⟨#[]⟩), .bool false]) h47 rfl rfl rfl (by kernel_rfl) (by kernel_rfl) (by kernel_rfl) (fun a53 h53 => ?_); clear h47
          refine pl_want h53 rfl rfl rfl (op_new (v := fun N => .pointer (some ⟨N, 0, none⟩)) (T := 86) (cs := #[.string (⟨#[]⟩), .string (⟨#[]⟩), .bool false]) (by kernel_rfl) (by kernel_rfl) (by kernel_rfl)) ?_; clear h53
          rintro _ w55 a54 ⟨N56, rfl, hN59, hz60, hk58, hg57⟩ h54
          have ha61 := row_fresh hf40 hN59
          have ha62 := row_fresh hf41 hN59
          have hB63 := hb_new hB42 hg57
          have hz64 := hB63.size
          have hz65 := hg57.size
          have hr66 := row_kept_new hf40 hg57
          have hr67 := row_kept_new hf41 hg57
          try dsimp only at h54
          refine pl_doW h54 rfl rfl (op_storeN rfl rfl rfl (by kernel_rfl) (by kernel_rfl) hk58 rfl) ?_; clear h54
          rintro _ w69 a68 ⟨hk70, hz71, hg72⟩ h68
          have hk70' : Blk w69 N56 86 #[.string (⟨#[]⟩), .string (⟨#[]⟩), .bool false] := hk70; clear hk70
          have hB73 := hb_at hB63 hg72 (by omega)
          have hz74 := hB73.size
          have hz75 := hg72.size
          have hr76 := row_kept_at hr66 hg72 (ha61)
          have hr77 := row_kept_at hr67 hg72 (ha62)
          refine pl_nil ?_
          refine co_then ?_
          refine co_seq ?_
          refine co_seq ?_
          refine co_reg ?_
          refine pl_val (v := .int .i64 0) h68 rfl rfl rfl (by kernel_rfl) (by kernel_rfl) (by kernel_rfl) (fun a78 h78 => ?_); clear h68
          refine pl_nil ?_
          refine co_then ?_
          refine wp_block ?_
          obtain ⟨y79, hy79⟩ : ∃ z, ys21[j]? = some z := ⟨_, List.getElem?_eq_getElem (by omega)⟩
          have h80 : Slots 57 [(0, v), (3, u22), (5, u2), (6, .int .i64 ((j : Nat) : Int)), (7, .pointer (some ⟨N56, 0, none⟩)), (8, .int .i64 0)] _ := h78.sub ⟨rfl, rfl, rfl, rfl, rfl, rfl, trivial⟩; clear h78
          refine co_loop (fun mm a x => ∃ (k : Nat), Slots 57 [(0, v), (3, u22), (5, u2), (6, .int .i64 ((j : Nat) : Int)), (7, .pointer (some ⟨N56, 0, none⟩)), (8, .int .i64 ((k : Nat) : Int))] a ∧ mm = l.length - k ∧ (k ≤ l.length) ∧ Blk x N56 86 #[.string ((lastD (l.take k) y79).1), .string ((lastD (l.take k) y79).2.1), .bool ((lastD (l.take k) y79).2.2)] ∧ x.ownsRow w7.heap.size 9 1 u22 ys21.length (ys21.flatMap strE) ∧ x.ownsRow w.heap.size 86 3 u2 (((ys21.take j).map (lastD l)).length) (((ys21.take j).map (lastD l)).flatMap opE) ∧ Below w.heap.size w x) (l.length - 0) ?_ ?_
          · exact ⟨0, h80.sub ⟨rfl, rfl, rfl, rfl, rfl, (slot_eq rfl (congrArg (Value.int .i64) (by first | rfl | omega))), trivial⟩, rfl, by omega, (blk_zOp l y79 hk70'), hr76, hr77, hB73⟩
          · rintro k81 a82 w83 ⟨k, h82, rfl, hi84, hf85, hf86, hf87, hB88⟩
            have hz89 := hB88.size
            have hl90 := hf85.lt
            refine co_seq ?_
            refine co_seq ?_
            refine co_reg ?_
            refine pl_val (v := .int .i64 ((k : Nat) : Int)) h82 rfl rfl rfl (by kernel_rfl) (by kernel_rfl) (by kernel_rfl) (fun a91 h91 => ?_); clear h82
            refine pl_val (v := v) h91 rfl rfl rfl (by kernel_rfl) (by kernel_rfl) (by kernel_rfl) (fun a92 h92 => ?_); clear h91
            refine pl_val (v := .int .i64 ((l.length : Nat) : Int)) h92 rfl rfl rfl (by kernel_rfl) (by kernel_rfl) (rn_len rfl rfl Try.underlying23 (hs.below hB88)) (fun a93 h93 => ?_); clear h92
            refine pl_val (v := .bool (decide (((k : Nat) : Int) < ((l.length : Nat) : Int)))) h93 rfl rfl rfl (by kernel_rfl) (by kernel_rfl) (by kernel_rfl) (fun a94 h94 => ?_); clear h93
            refine pl_nil ?_
            refine co_then ?_
            cases hc95 : (decide (((k : Nat) : Int) < ((l.length : Nat) : Int)))
            ·
              rw [hc95] at h94
              have hp96 : ¬ (((k : Nat) : Int) < ((l.length : Nat) : Int)) := of_decide_eq_false hc95
              clear hc95
              refine co_false h94 rfl ?_
              refine wp_exit ?_
              refine co_thenX ?_
              refine co_thenX ?_
              refine co_blockX ?_
              refine co_then ?_
              refine co_reg ?_
              refine pl_val (v := u2) h94 rfl rfl rfl (by kernel_rfl) (by kernel_rfl) (by kernel_rfl) (fun a97 h97 => ?_); clear h94
              refine pl_val (v := .agg #[.string ((lastD (l.take k) y79).1), .string ((lastD (l.take k) y79).2.1), .bool ((lastD (l.take k) y79).2.2)]) h97 rfl rfl rfl (by kernel_rfl) (by kernel_rfl) (rn_loadN rfl rfl Try.underlying86 rfl (by kernel_rfl) hf85.all) (fun a98 h98 => ?_); clear h97
              refine pl_want h98 rfl rfl rfl (op_new (v := fun N => .slice (some ⟨N, 0, none⟩) 1 1) (T := 86) (cs := #[.string ((lastD (l.take k) y79).1), .string ((lastD (l.take k) y79).2.1), .bool ((lastD (l.take k) y79).2.2)]) (by kernel_rfl) (by kernel_rfl) (by kernel_rfl)) ?_; clear h98
              rintro _ w100 a99 ⟨N101, rfl, hN104, hz105, hk103, hg102⟩ h99
              have ha106 := row_fresh hf86 hN104
              have ha107 := row_fresh hf87 hN104
              have hB108 := hb_new hB88 hg102
              have hz109 := hB108.size
              have hz110 := hg102.size
              have hk111 := hf85.kept hg102 (by simp)
              have hr112 := row_kept_new hf86 hg102
              have hr113 := row_kept_new hf87 hg102
              try dsimp only at h99
              refine pl_want h99 rfl rfl rfl (op_append rfl w.heap.size 86 (z := .agg #[.string (⟨#[]⟩), .string (⟨#[]⟩), .bool false]) (size := 3) (bytes := 40) Try.underlying23 (by kernel_rfl) rfl rfl rfl hr113 rfl hk103 rfl (by kernel_rfl) (by first | omega | (simp only [List.length_nil, List.length_append, List.length_cons, List.length_take, List.length_drop]; omega)) (by first | omega | (simp only [List.length_nil, List.length_append, List.length_cons, List.length_take, List.length_drop]; omega)) (by omega)) ?_; clear h99
              rintro v116 w115 a114 ⟨hr117, hg118⟩ h114
              have hr117' : w115.ownsRow w.heap.size 86 3 v116 (((ys21.take j).map (lastD l) ++ [((lastD (l.take k) y79).1, (lastD (l.take k) y79).2.1, ((lastD (l.take k) y79).2.2))]).length) (((ys21.take j).map (lastD l) ++ [((lastD (l.take k) y79).1, (lastD (l.take k) y79).2.1, ((lastD (l.take k) y79).2.2))]).flatMap opE) := row_push (y := ((lastD (l.take k) y79).1, (lastD (l.take k) y79).2.1, ((lastD (l.take k) y79).2.2))) hr117 rfl rfl; clear hr117
              have hB119 := hb_row hB108 hr113 (by omega) hg118
              have hz120 := hB119.size
              have hz121 := hg118.size
              have hk122 := hk111.kept hg118 (ha62)
              have hr123 := row_kept_row hr112 hr113 hg118 (by decide)
              have hk124 := hk103.kept hg118 (ha107)
              refine pl_val (v := v116) h114 rfl rfl rfl (by kernel_rfl) (by kernel_rfl) (by kernel_rfl) (fun a125 h125 => ?_); clear h114
              refine pl_nil ?_
              refine co_blockN ?_
              refine co_then ?_
              refine co_reg ?_
              refine pl_val (v := .int .i64 ((j : Nat) : Int)) h125 rfl rfl rfl (by kernel_rfl) (by kernel_rfl) (by kernel_rfl) (fun a126 h126 => ?_); clear h125
              refine pl_val (v := .int .i64 ((j + 1 : Nat) : Int)) h126 rfl rfl rfl (by kernel_rfl) (by kernel_rfl) (rn_arith' rfl rfl rfl rfl rfl rfl (IntWalk.i64_in _ (by omega)) (by omega)) (fun a127 h127 => ?_); clear h126
              refine pl_val (v := .int .i64 ((j + 1 : Nat) : Int)) h127 rfl rfl rfl (by kernel_rfl) (by kernel_rfl) (by kernel_rfl) (fun a128 h128 => ?_); clear h127
              refine pl_nil ?_
              refine co_then ?_
              refine ⟨(ys21.length - (j + 1)), by omega, ?_⟩
              exact ⟨j + 1, v116, h128.sub ⟨rfl, rfl, rfl, rfl, trivial⟩, rfl, by omega, hr123, (row_eq hr117' (by first | rfl | (rw [List.take_of_length_le (show l.length ≤ k by omega)]; exact map_snoc hy79))), hB119⟩
            ·
              rw [hc95] at h94
              have hp129 : ((k : Nat) : Int) < ((l.length : Nat) : Int) := of_decide_eq_true hc95
              clear hc95
              refine co_true h94 rfl ?_
              refine wp_skip ?_
              refine co_then ?_
              refine co_seq ?_
              refine wp_block ?_
              refine co_seq ?_
              refine dr_eq (by kernel_rfl) (fun w130 hg131 => ?_)
              have hB132 := hb_new hB88 hg131
              have hz133 := hB132.size
              have hz134 := hg131.size
              have hk135 := hf85.kept hg131 (by simp)
              have hr136 := row_kept_new hf86 hg131
              have hr137 := row_kept_new hf87 hg131
              refine dr_take (i := 0) (v := v) h94 rfl (by kernel_rfl) (by kernel_rfl) (by kernel_rfl) rfl rfl rfl rfl (by kernel_rfl) (fun _ _ => by kernel_rfl) (fun a138 h138 => ?_); clear h94
              refine dr_take (i := 1) (v := .int .i64 ((k : Nat) : Int)) h138 rfl (by kernel_rfl) (by kernel_rfl) (by kernel_rfl) rfl rfl rfl rfl (by kernel_rfl) (fun _ _ => by kernel_rfl) (fun a139 h139 => ?_); clear h138
              obtain ⟨y140, hy140⟩ : ∃ z, l[k]? = some z := ⟨_, List.getElem?_eq_getElem (by first | omega | (simp; done) | (simp; omega))⟩
              refine dr_take (i := 2) (v := .pointer (some ⟨(blkOf v), offOf v + k * 3, none⟩)) h139 rfl (by kernel_rfl) (by kernel_rfl) (by kernel_rfl) rfl rfl rfl rfl (by kernel_rfl) (fun x hx => by subst hx; exact (rn_index rfl rfl rfl Try.underlying23 Try.sizeOf86 (hs.below hB132) (by omega) (by first | omega | (simp; done) | (simp; omega)))) (fun a141 h141 => ?_); clear h139
              refine dr_take (i := 3) (v := .pointer (some ⟨(blkOf v), offOf v + k * 3, none⟩)) h141 rfl (by kernel_rfl) (by kernel_rfl) (by kernel_rfl) rfl rfl rfl rfl (by kernel_rfl) (fun _ _ => by kernel_rfl) (fun a142 h142 => ?_); clear h141
              refine dr_take (i := 4) (v := .string y140.1) h142 rfl (by kernel_rfl) (by kernel_rfl) (by kernel_rfl) rfl rfl rfl rfl (by kernel_rfl) (fun x hx => by subst hx; exact (rn_load1 rfl rfl Try.isAgg9 ((sl_at (hs.below hB132) hy140) 0 _ rfl))) (fun a143 h143 => ?_); clear h142
              refine dr_take (i := 5) (v := u22) h143 rfl (by kernel_rfl) (by kernel_rfl) (by kernel_rfl) rfl rfl rfl rfl (by kernel_rfl) (fun _ _ => by kernel_rfl) (fun a144 h144 => ?_); clear h143
              refine dr_take (i := 6) (v := .int .i64 ((j : Nat) : Int)) h144 rfl (by kernel_rfl) (by kernel_rfl) (by kernel_rfl) rfl rfl rfl rfl (by kernel_rfl) (fun _ _ => by kernel_rfl) (fun a145 h145 => ?_); clear h144
              refine dr_take (i := 7) (v := .pointer (some ⟨(blkOf u22), offOf u22 + j * 1, none⟩)) h145 rfl (by kernel_rfl) (by kernel_rfl) (by kernel_rfl) rfl rfl rfl rfl (by kernel_rfl) (fun x hx => by subst hx; exact (rn_index rfl rfl rfl Try.underlying101 Try.sizeOf9 (row_sl hr136 strE_len) (by omega) (by first | omega | (simp; done) | (simp; omega)))) (fun a146 h146 => ?_); clear h145
              refine dr_take (i := 8) (v := .string y79) h146 rfl (by kernel_rfl) (by kernel_rfl) (by kernel_rfl) rfl rfl rfl rfl (by kernel_rfl) (fun x hx => by subst hx; exact (rn_load1 rfl rfl Try.isAgg9 ((sl_at (row_sl hr136 strE_len) hy79) 0 _ rfl))) (fun a147 h147 => ?_); clear h146
              refine dr_take (i := 9) (v := .bool (y140.1.toList == y79.toList)) h147 rfl (by kernel_rfl) (by kernel_rfl) (by kernel_rfl) rfl rfl rfl rfl (by kernel_rfl) (fun _ _ => by kernel_rfl) (fun a148 h148 => ?_); clear h147
              refine dr_done (by kernel_rfl) ?_
              refine co_then ?_
              cases hc149 : (y140.1.toList == y79.toList)
              ·
                rw [hc149] at h148
                refine co_false h148 rfl ?_
                refine wp_skip ?_
                refine co_blockN ?_
                refine co_then ?_
                refine co_reg ?_
                refine pl_val (v := .int .i64 ((k : Nat) : Int)) h148 rfl rfl rfl (by kernel_rfl) (by kernel_rfl) (by kernel_rfl) (fun a150 h150 => ?_); clear h148
                refine pl_val (v := .int .i64 ((k + 1 : Nat) : Int)) h150 rfl rfl rfl (by kernel_rfl) (by kernel_rfl) (rn_arith' rfl rfl rfl rfl rfl rfl (IntWalk.i64_in _ (by omega)) (by omega)) (fun a151 h151 => ?_); clear h150
                refine pl_val (v := .int .i64 ((k + 1 : Nat) : Int)) h151 rfl rfl rfl (by kernel_rfl) (by kernel_rfl) (by kernel_rfl) (fun a152 h152 => ?_); clear h151
                refine pl_nil ?_
                refine co_then ?_
                refine ⟨(l.length - (k + 1)), by omega, ?_⟩
                exact ⟨k + 1, h152.sub ⟨rfl, rfl, rfl, rfl, rfl, rfl, trivial⟩, rfl, by omega, (by first | (rw [lastD_yes hy140 (by assumption)]; exact hk135) | (rw [lastD_no hy140 (by assumption)]; exact hk135)), hr136, hr137, hB132⟩
              ·
                rw [hc149] at h148
                refine co_true h148 rfl ?_
                refine co_reg ?_
                refine pl_val (v := v) h148 rfl rfl rfl (by kernel_rfl) (by kernel_rfl) (by kernel_rfl) (fun a153 h153 => ?_); clear h148
                refine pl_val (v := .int .i64 ((k : Nat) : Int)) h153 rfl rfl rfl (by kernel_rfl) (by kernel_rfl) (by kernel_rfl) (fun a154 h154 => ?_); clear h153
                refine pl_val (v := .pointer (some ⟨(blkOf v), offOf v + k * 3, none⟩)) h154 rfl rfl rfl (by kernel_rfl) (by kernel_rfl) (rn_index rfl rfl rfl Try.underlying23 Try.sizeOf86 (hs.below hB132) (by omega) (by first | omega | (simp; done) | (simp; omega))) (fun a155 h155 => ?_); clear h154
                refine pl_val (v := .agg #[.string y140.1, .string y140.2.1, .bool y140.2.2]) h155 rfl rfl rfl (by kernel_rfl) (by kernel_rfl) (rn_loadN rfl rfl Try.underlying86 rfl (by kernel_rfl) (sl_at (hs.below hB132) hy140)) (fun a156 h156 => ?_); clear h155
                refine pl_doW h156 rfl rfl (op_storeN rfl rfl rfl (by kernel_rfl) (by kernel_rfl) hk135 rfl) ?_; clear h156
                rintro _ w158 a157 ⟨hk159, hz160, hg161⟩ h157
                have hk159' : Blk w158 N56 86 #[.string y140.1, .string y140.2.1, .bool y140.2.2] := hk159; clear hk159
                have hB162 := hb_at hB132 hg161 (by omega)
                have hz163 := hB162.size
                have hz164 := hg161.size
                have hr165 := row_kept_at hr136 hg161 (ha61)
                have hr166 := row_kept_at hr137 hg161 (ha62)
                refine pl_nil ?_
                refine co_blockN ?_
                refine co_then ?_
                refine co_reg ?_
                refine pl_val (v := .int .i64 ((k : Nat) : Int)) h157 rfl rfl rfl (by kernel_rfl) (by kernel_rfl) (by kernel_rfl) (fun a167 h167 => ?_); clear h157
                refine pl_val (v := .int .i64 ((k + 1 : Nat) : Int)) h167 rfl rfl rfl (by kernel_rfl) (by kernel_rfl) (rn_arith' rfl rfl rfl rfl rfl rfl (IntWalk.i64_in _ (by omega)) (by omega)) (fun a168 h168 => ?_); clear h167
                refine pl_val (v := .int .i64 ((k + 1 : Nat) : Int)) h168 rfl rfl rfl (by kernel_rfl) (by kernel_rfl) (by kernel_rfl) (fun a169 h169 => ?_); clear h168
                refine pl_nil ?_
                refine co_then ?_
                refine ⟨(l.length - (k + 1)), by omega, ?_⟩
                exact ⟨k + 1, h169.sub ⟨rfl, rfl, rfl, rfl, rfl, rfl, trivial⟩, rfl, by omega, (by first | (rw [lastD_yes hy140 (by assumption)]; exact hk159') | (rw [lastD_no hy140 (by assumption)]; exact hk159')), hr165, hr166, hB162⟩
    ·
      rw [hc16] at h15
      have hp170 : ((i : Nat) : Int) < ((l.length : Nat) : Int) := of_decide_eq_true hc16
      clear hc16
      refine co_true h15 rfl ?_
      refine wp_skip ?_
      refine co_then ?_
      refine co_seq ?_
      refine wp_block ?_
      refine co_reg ?_
      refine pl_val (v := u) h15 rfl rfl rfl (by kernel_rfl) (by kernel_rfl) (by kernel_rfl) (fun a171 h171 => ?_); clear h15
      refine pl_val (v := v) h171 rfl rfl rfl (by kernel_rfl) (by kernel_rfl) (by kernel_rfl) (fun a172 h172 => ?_); clear h171
      refine pl_val (v := .int .i64 ((i : Nat) : Int)) h172 rfl rfl rfl (by kernel_rfl) (by kernel_rfl) (by kernel_rfl) (fun a173 h173 => ?_); clear h172
      obtain ⟨y174, hy174⟩ : ∃ z, l[i]? = some z := ⟨_, List.getElem?_eq_getElem (by first | omega | (simp; done) | (simp; omega))⟩
      refine pl_val (v := .pointer (some ⟨(blkOf v), offOf v + i * 3, none⟩)) h173 rfl rfl rfl (by kernel_rfl) (by kernel_rfl) (rn_index rfl rfl rfl Try.underlying23 Try.sizeOf86 (hs.below hB10) (by omega) (by first | omega | (simp; done) | (simp; omega))) (fun a175 h175 => ?_); clear h173
      refine pl_val (v := .pointer (some ⟨(blkOf v), offOf v + i * 3, none⟩)) h175 rfl rfl rfl (by kernel_rfl) (by kernel_rfl) (by kernel_rfl) (fun a176 h176 => ?_); clear h175
      refine pl_val (v := .string y174.1) h176 rfl rfl rfl (by kernel_rfl) (by kernel_rfl) (rn_load1 rfl rfl Try.isAgg9 ((sl_at (hs.below hB10) hy174) 0 _ rfl)) (fun a177 h177 => ?_); clear h176
      refine pl_want h177 rfl rfl rfl (op_new (v := fun N => .slice (some ⟨N, 0, none⟩) 1 1) (T := 9) (cs := #[.string y174.1]) (by kernel_rfl) (by kernel_rfl) (by kernel_rfl)) ?_; clear h177
      rintro _ w179 a178 ⟨N180, rfl, hN183, hz184, hk182, hg181⟩ h178
      have ha185 := row_fresh hf9 hN183
      have hB186 := hb_new hB10 hg181
      have hz187 := hB186.size
      have hz188 := hg181.size
      have hr189 := row_kept_new hf9 hg181
      try dsimp only at h178
      refine pl_want h178 rfl rfl rfl (op_append rfl w.heap.size 9 (z := .string (⟨#[]⟩)) (size := 1) (bytes := 16) Try.underlying101 (by kernel_rfl) rfl rfl rfl hr189 rfl hk182 rfl (by kernel_rfl) (by first | omega | (simp only [List.length_nil, List.length_append, List.length_cons, List.length_take, List.length_drop]; omega)) (by first | omega | (simp only [List.length_nil, List.length_append, List.length_cons, List.length_take, List.length_drop]; omega)) (by omega)) ?_; clear h178
      rintro v192 w191 a190 ⟨hr193, hg194⟩ h190
      have hr193' : w191.ownsRow w.heap.size 9 1 v192 (((l.take i).map (·.1) ++ [y174.1]).length) (((l.take i).map (·.1) ++ [y174.1]).flatMap strE) := row_push (y := y174.1) hr193 rfl rfl; clear hr193
      have hB195 := hb_row hB186 hr189 (by omega) hg194
      have hz196 := hB195.size
      have hz197 := hg194.size
      have hk198 := hk182.kept hg194 (ha185)
      refine pl_val (v := v192) h190 rfl rfl rfl (by kernel_rfl) (by kernel_rfl) (by kernel_rfl) (fun a199 h199 => ?_); clear h190
      refine pl_nil ?_
      refine co_blockN ?_
      refine co_then ?_
      refine co_reg ?_
      refine pl_val (v := .int .i64 ((i : Nat) : Int)) h199 rfl rfl rfl (by kernel_rfl) (by kernel_rfl) (by kernel_rfl) (fun a200 h200 => ?_); clear h199
      refine pl_val (v := .int .i64 ((i + 1 : Nat) : Int)) h200 rfl rfl rfl (by kernel_rfl) (by kernel_rfl) (rn_arith' rfl rfl rfl rfl rfl rfl (IntWalk.i64_in _ (by omega)) (by omega)) (fun a201 h201 => ?_); clear h200
      refine pl_val (v := .int .i64 ((i + 1 : Nat) : Int)) h201 rfl rfl rfl (by kernel_rfl) (by kernel_rfl) (by kernel_rfl) (fun a202 h202 => ?_); clear h201
      refine pl_nil ?_
      refine co_then ?_
      refine ⟨(l.length - (i + 1)), by omega, ?_⟩
      exact ⟨i + 1, v192, h202.sub ⟨rfl, rfl, rfl, trivial⟩, rfl, by omega, (row_eq hr193' (by first | rfl | exact map_snoc (by assumption))), hB195⟩
end Go.Proofs.Yteioaaegooebpaa

/- The document's own ops: Over, SamePairs. Conditions: at most 1000 pairs and operations. -/
namespace Go.Proofs.Yteioaaegooebpaa
open Go.RowKit Go.PlainAid
set_option linter.unusedVariables false

open Go.Sort Go.Shelf Go.Lib

def asOp (p : ValT) : OpT := (p.1, p.2, false)
def asPair (o : OpT) : ValT := (o.1, o.2.1)
theorem lastG_append (a b : List OpT) : lastG (a ++ b) = b.foldl lastF (lastG a) := by unfold lastG; rw [List.foldl_append]
theorem pair_last (l : List ValT) : ∀ k, lastG (l.map asOp) k = (pairG l k).map asOp := by
  refine snoc_ind (C := fun l => ∀ k, lastG (l.map asOp) k = (pairG l k).map asOp) (fun k => rfl) (fun l p ih k => ?_) l
  rw [List.map_append, List.map_cons, List.map_nil, lastG_snoc, pairG_snoc]
  unfold lastF pairF
  by_cases e : k = p.1
  · rw [if_pos (show k = (asOp p).1 from e), if_pos e]; rfl
  · rw [if_neg (show ¬ k = (asOp p).1 from e), if_neg e, ih k]
/-- What the pairs and the operations come to, told by the last operation of each key. -/
def gone (o : Option OpT) : Option ValT := match o with | none => none | some o => if o.2.2 = true then none else some (asPair o)
theorem ov_last (l : List ValT) (m : List OpT) : ∀ k, ovG l m k = gone (lastG (l.map asOp ++ m) k) := by
  refine snoc_ind (C := fun m => ∀ k, ovG l m k = gone (lastG (l.map asOp ++ m) k)) (fun k => ?_) (fun m o ih k => ?_) m
  · rw [List.append_nil, pair_last]
    show pairG l k = _
    cases h : pairG l k with
    | none => rfl
    | some p => rfl
  · rw [ovG_snoc, ← List.append_assoc, lastG_snoc]
    unfold ovF lastF
    by_cases e : k = o.1
    · rw [if_pos e, if_pos e]; rfl
    · rw [if_neg e, if_neg e, ih k]
def kept (ys : List OpT) : List ValT := (ys.filter fun o => !o.2.2).map asPair
theorem kept_yes {ys : List OpT} {i : Nat} {y : OpT} (h : ys[i]? = some y) (hd : y.2.2 = false) : kept (ys.take i) ++ [(y.1, y.2.1)] = kept (ys.take (i + 1)) := by rw [takeO_at h]; simp [kept, hd, asPair]
theorem kept_no {ys : List OpT} {i : Nat} {y : OpT} (h : ys[i]? = some y) (hd : y.2.2 = true) : kept (ys.take i) = kept (ys.take (i + 1)) := by rw [takeO_at h]; simp [kept, hd]
theorem kept_len (ys : List OpT) : (kept ys).length ≤ ys.length := by unfold kept; rw [List.length_map]; exact List.length_filter_le _ _
theorem over_set {l : List ValT} {m : List OpT} {ys : List OpT} (h : SetG (fun y : OpT => y.1) (lastG (l.map asOp ++ m)) ys) : SetG (fun y : ValT => y.1) (ovG l m) (kept ys) := by
  refine ⟨?_, fun y => ?_⟩
  · unfold kept
    rw [List.pairwise_map]
    exact (h.1.sublist List.filter_sublist).imp (fun {a b} hab => hab)
  · unfold kept
    rw [List.mem_map]
    constructor
    · rintro ⟨o, ho, rfl⟩
      rw [List.mem_filter] at ho
      obtain ⟨k, hk⟩ := (h.2 o).1 ho.1
      refine ⟨k, ?_⟩
      have hd : o.2.2 = false := by simpa using ho.2
      rw [ov_last, hk]; simp [gone, hd]
    · rintro ⟨k, hk⟩
      rw [ov_last] at hk
      cases hl : lastG (l.map asOp ++ m) k with
      | none => rw [hl] at hk; cases hk
      | some o =>
        rw [hl] at hk
        unfold gone at hk
        by_cases hd : o.2.2 = true
        · simp only [hd, if_true] at hk; cases hk
        · simp only [hd] at hk
          refine ⟨o, List.mem_filter.2 ⟨(h.2 o).2 ⟨k, hl⟩, by simpa using hd⟩, ?_⟩
          simpa using hk
def eqP (x y : ValT) : Bool := x.1.toList == y.1.toList && x.2.toList == y.2.toList
theorem eq_pair (a b d e : ByteArray) (w : World) : (binOp .eql 88 (.agg #[.string a, .string b]) (.agg #[.string d, .string e])).run Try.prog w = .ok (.bool (a.toList == d.toList && b.toList == e.toList)) w := by
  have u := Try.underlying9
  have hS : Try.prog.underlying 88 = some (.struct (Try.prog.fieldsOf 88)) := by kernel_rfl
  have hp : Try.prog.stoodInHeld 88 = false := by kernel_rfl
  have hf : (Try.prog.fieldsOf 88).toList.map (fun f => (f.offset, f.type)) = [(0, 9), (1, 9)] := by kernel_rfl
  rw [run_eql_struct, show (10000 : Nat) = 9999 + 1 from rfl, run_equalIn_agg w 9999 88 _ _ hS hp]
  simp only [Program.fieldsOf, Try.underlying88]
  go_simp
  by_cases h1 : a.toList = d.toList <;> by_cases h2 : b.toList = e.toList <;> simp [h1, h2]
def sameP : List ValT → List ValT → Bool
  | [], [] => true
  | x :: a, y :: b => eqP x y && sameP a b
  | _, _ => false
theorem sameP_len : ∀ {a b : List ValT}, a.length ≠ b.length → false = sameP a b
  | [], [], h => absurd rfl h
  | [], _ :: _, _ => rfl
  | _ :: _, [], _ => rfl
  | x :: a, y :: b, h => by
    show false = (eqP x y && sameP a b)
    rw [← sameP_len (a := a) (b := b) (fun e => h (by simp [e]))]; simp
theorem dropP {α : Type} {l : List α} {i : Nat} {y : α} (h : l[i]? = some y) : l.drop i = y :: l.drop (i + 1) := by
  obtain ⟨hi, rfl⟩ := List.getElem?_eq_some_iff.1 h
  exact List.drop_eq_getElem_cons hi
theorem sameP_step {a b : List ValT} {i : Nat} {x y : ValT} {z : Bool} (h : sameP (a.drop i) (b.drop i) = z) (hx : a[i]? = some x) (hy : b[i]? = some y) (he : eqP x y = true) : sameP (a.drop (i + 1)) (b.drop (i + 1)) = z := by
  rw [dropP hx, dropP hy] at h; unfold sameP at h; rwa [he, Bool.true_and] at h
theorem sameP_no {a b : List ValT} {i : Nat} {x y : ValT} {z : Bool} (h : sameP (a.drop i) (b.drop i) = z) (hx : a[i]? = some x) (hy : b[i]? = some y) (he : eqP x y = false) : false = z := by
  rw [dropP hx, dropP hy] at h; unfold sameP at h; rwa [he, Bool.false_and] at h
theorem sameP_end {a b : List ValT} {i : Nat} {z : Bool} (h : sameP (a.drop i) (b.drop i) = z) (hl : a.length = b.length) (hi : a.length ≤ i) : true = z := by
  rw [List.drop_eq_nil_of_le hi, List.drop_eq_nil_of_le (by omega)] at h; exact h
theorem eqP_of {x y : ValT} {b : Bool} (h : (!(x.1.toList == y.1.toList && x.2.toList == y.2.toList)) = b) : eqP x y = !b := by unfold eqP; rw [← h]; simp
theorem sameP_refl : ∀ a : List ValT, sameP a a = true
  | [] => rfl
  | x :: a => by show (eqP x x && sameP a a) = true; rw [sameP_refl a]; unfold eqP; simp

set_option maxRecDepth 100000 in
theorem ropsOver_any (v : Value) (l : List ValT) (v2 : Value) (m : List OpT) (w : World) (hs : SliceOf valE 2 w v l) (hs2 : SliceOf opE 3 w v2 m) (hlen : l.length + m.length ≤ 1000) :
    Calls Try.prog 17 #[v, v2] w fun e w' => ∃ (ys : List ValT) (u : Value), e = .returned (u) ∧ w'.ownsRow w.heap.size 88 2 u ys.length (ys.flatMap valE) ∧ SetG (fun y : ValT => y.1) (ovG l m) ys ∧ ys.length ≤ l.length + m.length ∧ Below w.heap.size w w' := by
  have hB0 := Below.refl w.heap.size w
  have hl_hs := sl_len hs
  have hl_hs2 := sl_len hs2
  refine co_enter (n := 61) Try.func17 rfl rfl rfl [(0, v), (1, v2)] rfl (fun a h0 => ?_)
  refine co_seq ?_
  refine co_reg ?_
  refine pl_val (v := .slice none 0 0) h0 rfl rfl rfl (by kernel_rfl) (by kernel_rfl) (by kernel_rfl) (fun a1 h1 => ?_); clear h0
  refine pl_nil ?_
  refine co_then ?_
  refine co_seq ?_
  refine co_reg ?_
  refine pl_val (v := .slice none 0 0) h1 rfl rfl rfl (by kernel_rfl) (by kernel_rfl) (by kernel_rfl) (fun a2 h2 => ?_); clear h1
  refine pl_nil ?_
  refine co_then ?_
  refine co_seq ?_
  refine co_seq ?_
  refine co_reg ?_
  refine pl_val (v := .int .i64 0) h2 rfl rfl rfl (by kernel_rfl) (by kernel_rfl) (by kernel_rfl) (fun a3 h3 => ?_); clear h2
  refine pl_nil ?_
  refine co_then ?_
  refine wp_block ?_
  have h4 : Slots 61 [(0, v), (1, v2), (5, .slice none 0 0), (6, .int .i64 0)] _ := h3.sub ⟨rfl, rfl, rfl, rfl, trivial⟩; clear h3
  refine co_loop (fun mm a x => ∃ (i : Nat) (u : Value), Slots 61 [(0, v), (1, v2), (5, u), (6, .int .i64 ((i : Nat) : Int))] a ∧ mm = l.length - i ∧ (i ≤ l.length) ∧ x.ownsRow w.heap.size 86 3 u ((l.take i).map asOp).length (((l.take i).map asOp).flatMap opE) ∧ Below w.heap.size w x) (l.length - 0) ?_ ?_
  · exact ⟨0, (.slice none 0 0), h4.sub ⟨rfl, rfl, rfl, (slot_eq rfl (congrArg (Value.int .i64) (by first | rfl | omega))), trivial⟩, rfl, by omega, (row_nilL _ _ _ _ _), hB0⟩
  · rintro k5 a6 w7 ⟨i, u, h6, rfl, hi8, hf9, hB10⟩
    have hz11 := hB10.size
    have hst : ((l.take i).map asOp).length ≤ i := by rw [List.length_map]; exact List.length_take_le _ _
    refine co_seq ?_
    refine co_seq ?_
    refine co_reg ?_
    refine pl_val (v := .int .i64 ((i : Nat) : Int)) h6 rfl rfl rfl (by kernel_rfl) (by kernel_rfl) (by kernel_rfl) (fun a12 h12 => ?_); clear h6
    refine pl_val (v := v) h12 rfl rfl rfl (by kernel_rfl) (by kernel_rfl) (by kernel_rfl) (fun a13 h13 => ?_); clear h12
    refine pl_val (v := .int .i64 ((l.length : Nat) : Int)) h13 rfl rfl rfl (by kernel_rfl) (by kernel_rfl) (rn_len rfl rfl Try.underlying22 (hs.below hB10)) (fun a14 h14 => ?_); clear h13
    refine pl_val (v := .bool (decide (((i : Nat) : Int) < ((l.length : Nat) : Int)))) h14 rfl rfl rfl (by kernel_rfl) (by kernel_rfl) (by kernel_rfl) (fun a15 h15 => ?_); clear h14
    refine pl_nil ?_
    refine co_then ?_
    cases hc16 : (decide (((i : Nat) : Int) < ((l.length : Nat) : Int)))
    ·
      rw [hc16] at h15
      have hp17 : ¬ (((i : Nat) : Int) < ((l.length : Nat) : Int)) := of_decide_eq_false hc16
      clear hc16
      refine co_false h15 rfl ?_
      refine wp_exit ?_
      refine co_thenX ?_
      refine co_thenX ?_
      refine co_blockX ?_
      refine co_then ?_
      refine co_seq ?_
      refine co_reg ?_
      refine pl_val (v := u) h15 rfl rfl rfl (by kernel_rfl) (by kernel_rfl) (by kernel_rfl) (fun a18 h18 => ?_); clear h15
      refine pl_val (v := v2) h18 rfl rfl rfl (by kernel_rfl) (by kernel_rfl) (by kernel_rfl) (fun a19 h19 => ?_); clear h18
      refine pl_want h19 rfl rfl rfl (op_appendSrc rfl w.heap.size 86 (z := .agg #[.string (⟨#[]⟩), .string (⟨#[]⟩), .bool false]) (size := 3) (bytes := 40) Try.underlying23 (by kernel_rfl) rfl rfl rfl hf9 rfl (hs2.below hB10) (fun y _ => ⟨opE_len y, opE_one y⟩) (by first | omega | (simp only [List.length_nil, List.length_append, List.length_cons, List.length_take, List.length_drop]; omega)) (by first | omega | (simp only [List.length_nil, List.length_append, List.length_cons, List.length_take, List.length_drop]; omega)) (by omega)) ?_; clear h19
      rintro v22 w21 a20 ⟨hr23, hg24⟩ h20
      have hr23' : w21.ownsRow w.heap.size 86 3 v22 (((l.take i).map asOp ++ m).length) (((l.take i).map asOp ++ m).flatMap opE) := row_app hr23; clear hr23
      have hB25 := hb_row hB10 hf9 (by omega) hg24
      have hz26 := hB25.size
      have hz27 := hg24.size
      refine pl_val (v := v22) h20 rfl rfl rfl (by kernel_rfl) (by kernel_rfl) (by kernel_rfl) (fun a28 h28 => ?_); clear h20
      refine pl_nil ?_
      refine co_then ?_
      refine co_seq ?_
      refine co_reg ?_
      refine pl_val (v := v22) h28 rfl rfl rfl (by kernel_rfl) (by kernel_rfl) (by kernel_rfl) (fun a29 h29 => ?_); clear h28
      refine pl_want h29 rfl rfl rfl (op_call (args := #[v22]) (R := fun res xw => ∃ ys : List OpT, ∃ u : Value, res = u ∧ xw.ownsRow w21.heap.size 86 3 u ys.length (ys.flatMap opE) ∧ SetG (fun y : OpT => y.1) (lastG ((l.take i).map asOp ++ m)) ys ∧ ys.length ≤ ((l.take i).map asOp ++ m).length ∧ Below w21.heap.size w21 xw) rfl rfl rfl (by kernel_rfl) (by kernel_rfl) (Try.call15 _ _) (ropsNorm_any v22 ((l.take i).map asOp ++ m) w21 (row_sl hr23' opE_len) (by simp only [List.length_append, List.length_map, List.length_take]; omega)) (by rintro e x ⟨ys, u, rfl, hq34, hq35, hq36, hb37⟩; exact ⟨_, rfl, ⟨ys, u, rfl, hq34, hq35, hq36, hb37⟩⟩)) ?_; clear h29
      rintro u33 w31 a30 ⟨ys32, _, rfl, hq34, hq35, hq36, hb37⟩ h30
      have hB38 := hb_call hB25 hb37
      have hz39 := hB38.size
      have hz40 := hb37.size
      have hr41 := row_kept_new hr23' (below_grown hb37)
      have hl42 := sl_len (row_sl hq34 opE_len)
      refine pl_val (v := u33) h30 rfl rfl rfl (by kernel_rfl) (by kernel_rfl) (by kernel_rfl) (fun a43 h43 => ?_); clear h30
      refine pl_nil ?_
      refine co_then ?_
      refine co_seq ?_
      refine co_reg ?_
      refine pl_val (v := .slice none 0 0) h43 rfl rfl rfl (by kernel_rfl) (by kernel_rfl) (by kernel_rfl) (fun a44 h44 => ?_); clear h43
      refine pl_nil ?_
      refine co_then ?_
      refine co_seq ?_
      refine co_seq ?_
      refine co_reg ?_
      refine pl_val (v := .int .i64 0) h44 rfl rfl rfl (by kernel_rfl) (by kernel_rfl) (by kernel_rfl) (fun a45 h45 => ?_); clear h44
      refine pl_nil ?_
      refine co_then ?_
      refine wp_block ?_
      have hall : l.take i = l := List.take_of_length_le (by omega)
      have hset : SetG (fun y : OpT => y.1) (lastG (l.map asOp ++ m)) ys32 := by have := hq35; rwa [hall] at this
      have hysl : ys32.length ≤ l.length + m.length := by have h := (by assumption : ys32.length ≤ ((l.take i).map asOp ++ m).length); rw [List.length_append, List.length_map, hall] at h; exact h
      have h46 : Slots 61 [(5, u33), (7, .slice none 0 0), (8, .int .i64 0)] _ := h45.sub ⟨rfl, rfl, rfl, trivial⟩; clear h45
      refine co_loop (fun mm a x => ∃ (j : Nat) (u2 : Value), Slots 61 [(5, u33), (7, u2), (8, .int .i64 ((j : Nat) : Int))] a ∧ mm = ys32.length - j ∧ (j ≤ ys32.length) ∧ x.ownsRow w21.heap.size 86 3 u33 ys32.length (ys32.flatMap opE) ∧ x.ownsRow w.heap.size 88 2 u2 (kept (ys32.take j)).length ((kept (ys32.take j)).flatMap valE) ∧ Below w.heap.size w x) (ys32.length - 0) ?_ ?_
      · exact ⟨0, (.slice none 0 0), h46.sub ⟨rfl, rfl, (slot_eq rfl (congrArg (Value.int .i64) (by first | rfl | omega))), trivial⟩, rfl, by omega, hq34, (row_nilL _ _ _ _ _), hB38⟩
      · rintro k47 a48 w49 ⟨j, u2, h48, rfl, hi50, hf51, hf52, hB53⟩
        have hz54 := hB53.size
        have hst3 : (kept (ys32.take j)).length ≤ j := Nat.le_trans (kept_len _) (List.length_take_le _ _)
        refine co_seq ?_
        refine co_seq ?_
        refine co_reg ?_
        refine pl_val (v := .int .i64 ((j : Nat) : Int)) h48 rfl rfl rfl (by kernel_rfl) (by kernel_rfl) (by kernel_rfl) (fun a55 h55 => ?_); clear h48
        refine pl_val (v := u33) h55 rfl rfl rfl (by kernel_rfl) (by kernel_rfl) (by kernel_rfl) (fun a56 h56 => ?_); clear h55
        refine pl_val (v := .int .i64 ((ys32.length : Nat) : Int)) h56 rfl rfl rfl (by kernel_rfl) (by kernel_rfl) (rn_lenOwn rfl rfl Try.underlying23 hf51) (fun a57 h57 => ?_); clear h56
        refine pl_val (v := .bool (decide (((j : Nat) : Int) < ((ys32.length : Nat) : Int)))) h57 rfl rfl rfl (by kernel_rfl) (by kernel_rfl) (by kernel_rfl) (fun a58 h58 => ?_); clear h57
        refine pl_nil ?_
        refine co_then ?_
        cases hc59 : (decide (((j : Nat) : Int) < ((ys32.length : Nat) : Int)))
        ·
          rw [hc59] at h58
          have hp60 : ¬ (((j : Nat) : Int) < ((ys32.length : Nat) : Int)) := of_decide_eq_false hc59
          clear hc59
          refine co_false h58 rfl ?_
          refine wp_exit ?_
          refine co_thenX ?_
          refine co_thenX ?_
          refine co_blockX ?_
          refine co_then ?_
          refine co_seq ?_
          refine co_reg ?_
          refine pl_val (v := u2) h58 rfl rfl rfl (by kernel_rfl) (by kernel_rfl) (by kernel_rfl) (fun a61 h61 => ?_); clear h58
          refine pl_val (v := u2) h61 rfl rfl rfl (by kernel_rfl) (by kernel_rfl) (by kernel_rfl) (fun a62 h62 => ?_); clear h61
          refine pl_nil ?_
          refine co_then ?_
          refine wp_ret ?_
          refine co_ret1 h62 rfl rfl ?_
          have hallj : ys32.take j = ys32 := List.take_of_length_le (by omega)
          exact ⟨_, _, rfl, (row_eq (row_lows hf52 (by omega)) (by rw [hallj])), over_set hset, by have := kept_len ys32; omega, hB53⟩
        ·
          rw [hc59] at h58
          have hp63 : ((j : Nat) : Int) < ((ys32.length : Nat) : Int) := of_decide_eq_true hc59
          clear hc59
          refine co_true h58 rfl ?_
          refine wp_skip ?_
          refine co_then ?_
          refine co_seq ?_
          refine wp_block ?_
          refine co_seq ?_
          refine co_reg ?_
          refine pl_val (v := u33) h58 rfl rfl rfl (by kernel_rfl) (by kernel_rfl) (by kernel_rfl) (fun a64 h64 => ?_); clear h58
          refine pl_val (v := .int .i64 ((j : Nat) : Int)) h64 rfl rfl rfl (by kernel_rfl) (by kernel_rfl) (by kernel_rfl) (fun a65 h65 => ?_); clear h64
          obtain ⟨y66, hy66⟩ : ∃ z, ys32[j]? = some z := ⟨_, List.getElem?_eq_getElem (by first | omega | (simp; done) | (simp; omega))⟩
          refine pl_val (v := .pointer (some ⟨(blkOf u33), offOf u33 + j * 3, none⟩)) h65 rfl rfl rfl (by kernel_rfl) (by kernel_rfl) (rn_index rfl rfl rfl Try.underlying23 Try.sizeOf86 (row_sl hf51 opE_len) (by omega) (by first | omega | (simp; done) | (simp; omega))) (fun a67 h67 => ?_); clear h65
          refine pl_val (v := .pointer (some ⟨(blkOf u33), offOf u33 + j * 3 + 2, none⟩)) h67 rfl rfl rfl (by kernel_rfl) (by kernel_rfl) (by kernel_rfl) (fun a68 h68 => ?_); clear h67
          refine pl_val (v := .bool y66.2.2) h68 rfl rfl rfl (by kernel_rfl) (by kernel_rfl) (rn_load1 rfl rfl Try.isAgg4 ((sl_at (row_sl hf51 opE_len) hy66) 2 _ rfl)) (fun a69 h69 => ?_); clear h68
          cases hc70 : (y66.2.2)
          ·
            rw [hc70] at h69
            refine pl_val (v := .bool true) h69 rfl rfl rfl (by kernel_rfl) (by kernel_rfl) (by kernel_rfl) (fun a71 h71 => ?_); clear h69
            refine pl_nil ?_
            refine co_then ?_
            refine co_true h71 rfl ?_
            refine dr_gen (fun x => Below w.heap.size w x ∧ x.ownsRow w21.heap.size 86 3 u33 ys32.length (ys32.flatMap opE)) (by kernel_rfl) (fun w72 hg73 => ?_) (fun w72 hg73 => ?_)
            ·
              have hB74 := hb_new hB53 hg73
              have hz75 := hB74.size
              have hz76 := hg73.size
              have hr77 := row_kept_new hf51 hg73
              have hr78 := row_kept_new hf52 hg73
              exact ⟨hB74, hr77⟩
            have hB79 := hb_new hB53 hg73
            have hz80 := hB79.size
            have hz81 := hg73.size
            have hr82 := row_kept_new hf51 hg73
            have hr83 := row_kept_new hf52 hg73
            refine dr_take (i := 0) (v := u2) h71 rfl (by kernel_rfl) (by kernel_rfl) (by kernel_rfl) rfl rfl rfl ⟨hB79, hr82⟩ (by kernel_rfl) (fun _ _ => by kernel_rfl) (fun a84 h84 => ?_); clear h71
            refine dr_take (i := 1) (v := u33) h84 rfl (by kernel_rfl) (by kernel_rfl) (by kernel_rfl) rfl rfl rfl ⟨hB79, hr82⟩ (by kernel_rfl) (fun _ _ => by kernel_rfl) (fun a85 h85 => ?_); clear h84
            refine dr_take (i := 2) (v := .int .i64 ((j : Nat) : Int)) h85 rfl (by kernel_rfl) (by kernel_rfl) (by kernel_rfl) rfl rfl rfl ⟨hB79, hr82⟩ (by kernel_rfl) (fun _ _ => by kernel_rfl) (fun a86 h86 => ?_); clear h85
            refine dr_take (i := 3) (v := .pointer (some ⟨(blkOf u33), offOf u33 + j * 3, none⟩)) h86 rfl (by kernel_rfl) (by kernel_rfl) (by kernel_rfl) rfl rfl rfl ⟨hB79, hr82⟩ (by kernel_rfl) (fun x hx => (rn_index rfl rfl rfl Try.underlying23 Try.sizeOf86 (row_sl hx.2 opE_len) (by omega) (by first | omega | (simp; done) | (simp; omega)))) (fun a87 h87 => ?_); clear h86
            refine dr_take (i := 4) (v := .pointer (some ⟨(blkOf u33), offOf u33 + j * 3, none⟩)) h87 rfl (by kernel_rfl) (by kernel_rfl) (by kernel_rfl) rfl rfl rfl ⟨hB79, hr82⟩ (by kernel_rfl) (fun _ _ => by kernel_rfl) (fun a88 h88 => ?_); clear h87
            refine dr_take (i := 5) (v := .string y66.1) h88 rfl (by kernel_rfl) (by kernel_rfl) (by kernel_rfl) rfl rfl rfl ⟨hB79, hr82⟩ (by kernel_rfl) (fun x hx => (rn_load1 rfl rfl Try.isAgg9 ((sl_at (row_sl hx.2 opE_len) hy66) 0 _ rfl))) (fun a89 h89 => ?_); clear h88
            refine dr_take (i := 6) (v := u33) h89 rfl (by kernel_rfl) (by kernel_rfl) (by kernel_rfl) rfl rfl rfl ⟨hB79, hr82⟩ (by kernel_rfl) (fun _ _ => by kernel_rfl) (fun a90 h90 => ?_); clear h89
            refine dr_take (i := 7) (v := .int .i64 ((j : Nat) : Int)) h90 rfl (by kernel_rfl) (by kernel_rfl) (by kernel_rfl) rfl rfl rfl ⟨hB79, hr82⟩ (by kernel_rfl) (fun _ _ => by kernel_rfl) (fun a91 h91 => ?_); clear h90
            refine dr_take (i := 8) (v := .pointer (some ⟨(blkOf u33), offOf u33 + j * 3, none⟩)) h91 rfl (by kernel_rfl) (by kernel_rfl) (by kernel_rfl) rfl rfl rfl ⟨hB79, hr82⟩ (by kernel_rfl) (fun x hx => (rn_index rfl rfl rfl Try.underlying23 Try.sizeOf86 (row_sl hx.2 opE_len) (by omega) (by first | omega | (simp; done) | (simp; omega)))) (fun a92 h92 => ?_); clear h91
            refine dr_take (i := 9) (v := .pointer (some ⟨(blkOf u33), offOf u33 + j * 3 + 1, none⟩)) h92 rfl (by kernel_rfl) (by kernel_rfl) (by kernel_rfl) rfl rfl rfl ⟨hB79, hr82⟩ (by kernel_rfl) (fun _ _ => by kernel_rfl) (fun a93 h93 => ?_); clear h92
            refine dr_take (i := 10) (v := .string y66.2.1) h93 rfl (by kernel_rfl) (by kernel_rfl) (by kernel_rfl) rfl rfl rfl ⟨hB79, hr82⟩ (by kernel_rfl) (fun x hx => (rn_load1 rfl rfl Try.isAgg9 ((sl_at (row_sl hx.2 opE_len) hy66) 1 _ rfl))) (fun a94 h94 => ?_); clear h93
            refine dr_take (i := 11) (v := .agg #[.string y66.1, .string y66.2.1]) h94 rfl (by kernel_rfl) (by kernel_rfl) (by kernel_rfl) rfl rfl rfl ⟨hB79, hr82⟩ (by kernel_rfl) (fun _ _ => by kernel_rfl) (fun a95 h95 => ?_); clear h94
            refine dr_one (i := 12) h95 rfl (by kernel_rfl) rfl rfl rfl (op_new (v := fun N => .slice (some ⟨N, 0, none⟩) 1 1) (T := 88) (cs := #[.string y66.1, .string y66.2.1]) (by kernel_rfl) (by kernel_rfl) (by kernel_rfl)) ?_ ?_; clear h95
            ·
              rintro _ w97 ⟨N98, rfl, hN101, hz102, hk100, hg99⟩
              have ha103 := row_fresh hr82 hN101
              have ha104 := row_fresh hr83 hN101
              have hB105 := hb_new hB79 hg99
              have hz106 := hB105.size
              have hz107 := hg99.size
              have hr108 := row_kept_new hr82 hg99
              have hr109 := row_kept_new hr83 hg99
              exact ⟨hB105, hr108⟩
            rintro _ w97 a96 ⟨N98, rfl, hN101, hz102, hk100, hg99⟩ h96
            have ha103 := row_fresh hr82 hN101
            have ha104 := row_fresh hr83 hN101
            have hB105 := hb_new hB79 hg99
            have hz106 := hB105.size
            have hz107 := hg99.size
            have hr108 := row_kept_new hr82 hg99
            have hr109 := row_kept_new hr83 hg99
            try dsimp only at h96
            refine dr_one (i := 13) h96 rfl (by kernel_rfl) rfl rfl rfl (op_append rfl w.heap.size 88 (z := .agg #[.string (⟨#[]⟩), .string (⟨#[]⟩)]) (size := 2) (bytes := 32) Try.underlying22 (by kernel_rfl) rfl rfl rfl hr109 rfl hk100 rfl (by kernel_rfl) (by first | omega | (simp only [List.length_nil, List.length_append, List.length_cons, List.length_take, List.length_drop]; omega)) (by first | omega | (simp only [List.length_nil, List.length_append, List.length_cons, List.length_take, List.length_drop]; omega)) (by omega)) ?_ ?_; clear h96
            ·
              rintro v112 w111 ⟨hr113, hg114⟩
              have hr113' : w111.ownsRow w.heap.size 88 2 v112 ((kept (ys32.take j) ++ [(y66.1, y66.2.1)]).length) ((kept (ys32.take j) ++ [(y66.1, y66.2.1)]).flatMap valE) := row_push (y := (y66.1, y66.2.1)) hr113 rfl rfl; clear hr113
              have hB115 := hb_row hB105 hr109 (by omega) hg114
              have hz116 := hB115.size
              have hz117 := hg114.size
              have hr118 := row_kept_row hr108 hr109 hg114 (by decide)
              have hk119 := hk100.kept hg114 (ha104)
              exact ⟨hB115, hr118⟩
            rintro v112 w111 a110 ⟨hr113, hg114⟩ h110
            have hr113' : w111.ownsRow w.heap.size 88 2 v112 ((kept (ys32.take j) ++ [(y66.1, y66.2.1)]).length) ((kept (ys32.take j) ++ [(y66.1, y66.2.1)]).flatMap valE) := row_push (y := (y66.1, y66.2.1)) hr113 rfl rfl; clear hr113
            have hB115 := hb_row hB105 hr109 (by omega) hg114
            have hz116 := hB115.size
            have hz117 := hg114.size
            have hr118 := row_kept_row hr108 hr109 hg114 (by decide)
            have hk119 := hk100.kept hg114 (ha104)
            refine dr_take (i := 14) (v := v112) h110 rfl (by kernel_rfl) (by kernel_rfl) (by kernel_rfl) rfl rfl rfl ⟨hB115, hr118⟩ (by kernel_rfl) (fun _ _ => by kernel_rfl) (fun a120 h120 => ?_); clear h110
            refine dr_done (by kernel_rfl) ?_
            refine co_blockN ?_
            refine co_then ?_
            refine co_reg ?_
            refine pl_val (v := .int .i64 ((j : Nat) : Int)) h120 rfl rfl rfl (by kernel_rfl) (by kernel_rfl) (by kernel_rfl) (fun a121 h121 => ?_); clear h120
            refine pl_val (v := .int .i64 ((j + 1 : Nat) : Int)) h121 rfl rfl rfl (by kernel_rfl) (by kernel_rfl) (rn_arith' rfl rfl rfl rfl rfl rfl (IntWalk.i64_in _ (by omega)) (by omega)) (fun a122 h122 => ?_); clear h121
            refine pl_val (v := .int .i64 ((j + 1 : Nat) : Int)) h122 rfl rfl rfl (by kernel_rfl) (by kernel_rfl) (by kernel_rfl) (fun a123 h123 => ?_); clear h122
            refine pl_nil ?_
            refine co_then ?_
            refine ⟨(ys32.length - (j + 1)), by omega, ?_⟩
            exact ⟨j + 1, v112, h123.sub ⟨rfl, rfl, rfl, trivial⟩, rfl, by omega, hr118, (row_eq hr113' (by first | rfl | exact kept_yes (by assumption) (by assumption) | exact kept_no (by assumption) (by assumption))), hB115⟩
          ·
            rw [hc70] at h69
            refine pl_val (v := .bool false) h69 rfl rfl rfl (by kernel_rfl) (by kernel_rfl) (by kernel_rfl) (fun a124 h124 => ?_); clear h69
            refine pl_nil ?_
            refine co_then ?_
            refine co_false h124 rfl ?_
            refine wp_skip ?_
            refine co_blockN ?_
            refine co_then ?_
            refine co_reg ?_
            refine pl_val (v := .int .i64 ((j : Nat) : Int)) h124 rfl rfl rfl (by kernel_rfl) (by kernel_rfl) (by kernel_rfl) (fun a125 h125 => ?_); clear h124
            refine pl_val (v := .int .i64 ((j + 1 : Nat) : Int)) h125 rfl rfl rfl (by kernel_rfl) (by kernel_rfl) (rn_arith' rfl rfl rfl rfl rfl rfl (IntWalk.i64_in _ (by omega)) (by omega)) (fun a126 h126 => ?_); clear h125
            refine pl_val (v := .int .i64 ((j + 1 : Nat) : Int)) h126 rfl rfl rfl (by kernel_rfl) (by kernel_rfl) (by kernel_rfl) (fun a127 h127 => ?_); clear h126
            refine pl_nil ?_
            refine co_then ?_
            refine ⟨(ys32.length - (j + 1)), by omega, ?_⟩
            exact ⟨j + 1, u2, h127.sub ⟨rfl, rfl, rfl, trivial⟩, rfl, by omega, hf51, (row_eq hf52 (by first | rfl | exact kept_yes (by assumption) (by assumption) | exact kept_no (by assumption) (by assumption))), hB53⟩
    ·
      rw [hc16] at h15
      have hp128 : ((i : Nat) : Int) < ((l.length : Nat) : Int) := of_decide_eq_true hc16
      clear hc16
      refine co_true h15 rfl ?_
      refine wp_skip ?_
      refine co_then ?_
      refine co_seq ?_
      refine wp_block ?_
      refine dr_gen (fun x => Below w.heap.size w x) (by kernel_rfl) (fun w129 hg130 => ?_) (fun w129 hg130 => ?_)
      ·
        have hB131 := hb_new hB10 hg130
        have hz132 := hB131.size
        have hz133 := hg130.size
        have hr134 := row_kept_new hf9 hg130
        exact hB131
      have hB135 := hb_new hB10 hg130
      have hz136 := hB135.size
      have hz137 := hg130.size
      have hr138 := row_kept_new hf9 hg130
      refine dr_take (i := 0) (v := u) h15 rfl (by kernel_rfl) (by kernel_rfl) (by kernel_rfl) rfl rfl rfl hB135 (by kernel_rfl) (fun _ _ => by kernel_rfl) (fun a139 h139 => ?_); clear h15
      refine dr_take (i := 1) (v := v) h139 rfl (by kernel_rfl) (by kernel_rfl) (by kernel_rfl) rfl rfl rfl hB135 (by kernel_rfl) (fun _ _ => by kernel_rfl) (fun a140 h140 => ?_); clear h139
      refine dr_take (i := 2) (v := .int .i64 ((i : Nat) : Int)) h140 rfl (by kernel_rfl) (by kernel_rfl) (by kernel_rfl) rfl rfl rfl hB135 (by kernel_rfl) (fun _ _ => by kernel_rfl) (fun a141 h141 => ?_); clear h140
      obtain ⟨y142, hy142⟩ : ∃ z, l[i]? = some z := ⟨_, List.getElem?_eq_getElem (by first | omega | (simp; done) | (simp; omega))⟩
      refine dr_take (i := 3) (v := .pointer (some ⟨(blkOf v), offOf v + i * 2, none⟩)) h141 rfl (by kernel_rfl) (by kernel_rfl) (by kernel_rfl) rfl rfl rfl hB135 (by kernel_rfl) (fun x hx => (rn_index rfl rfl rfl Try.underlying22 Try.sizeOf88 (hs.below hx) (by omega) (by first | omega | (simp; done) | (simp; omega)))) (fun a143 h143 => ?_); clear h141
      refine dr_take (i := 4) (v := .pointer (some ⟨(blkOf v), offOf v + i * 2, none⟩)) h143 rfl (by kernel_rfl) (by kernel_rfl) (by kernel_rfl) rfl rfl rfl hB135 (by kernel_rfl) (fun _ _ => by kernel_rfl) (fun a144 h144 => ?_); clear h143
      refine dr_take (i := 5) (v := .string y142.1) h144 rfl (by kernel_rfl) (by kernel_rfl) (by kernel_rfl) rfl rfl rfl hB135 (by kernel_rfl) (fun x hx => (rn_load1 rfl rfl Try.isAgg9 ((sl_at (hs.below hx) hy142) 0 _ rfl))) (fun a145 h145 => ?_); clear h144
      refine dr_take (i := 6) (v := v) h145 rfl (by kernel_rfl) (by kernel_rfl) (by kernel_rfl) rfl rfl rfl hB135 (by kernel_rfl) (fun _ _ => by kernel_rfl) (fun a146 h146 => ?_); clear h145
      refine dr_take (i := 7) (v := .int .i64 ((i : Nat) : Int)) h146 rfl (by kernel_rfl) (by kernel_rfl) (by kernel_rfl) rfl rfl rfl hB135 (by kernel_rfl) (fun _ _ => by kernel_rfl) (fun a147 h147 => ?_); clear h146
      refine dr_take (i := 8) (v := .pointer (some ⟨(blkOf v), offOf v + i * 2, none⟩)) h147 rfl (by kernel_rfl) (by kernel_rfl) (by kernel_rfl) rfl rfl rfl hB135 (by kernel_rfl) (fun x hx => (rn_index rfl rfl rfl Try.underlying22 Try.sizeOf88 (hs.below hx) (by omega) (by first | omega | (simp; done) | (simp; omega)))) (fun a148 h148 => ?_); clear h147
      refine dr_take (i := 9) (v := .pointer (some ⟨(blkOf v), offOf v + i * 2 + 1, none⟩)) h148 rfl (by kernel_rfl) (by kernel_rfl) (by kernel_rfl) rfl rfl rfl hB135 (by kernel_rfl) (fun _ _ => by kernel_rfl) (fun a149 h149 => ?_); clear h148
      refine dr_take (i := 10) (v := .string y142.2) h149 rfl (by kernel_rfl) (by kernel_rfl) (by kernel_rfl) rfl rfl rfl hB135 (by kernel_rfl) (fun x hx => (rn_load1 rfl rfl Try.isAgg9 ((sl_at (hs.below hx) hy142) 1 _ rfl))) (fun a150 h150 => ?_); clear h149
      refine dr_take (i := 11) (v := .agg #[.string y142.1, .string y142.2, .bool false]) h150 rfl (by kernel_rfl) (by kernel_rfl) (by kernel_rfl) rfl rfl rfl hB135 (by kernel_rfl) (fun _ _ => by kernel_rfl) (fun a151 h151 => ?_); clear h150
      refine dr_one (i := 12) h151 rfl (by kernel_rfl) rfl rfl rfl (op_new (v := fun N => .slice (some ⟨N, 0, none⟩) 1 1) (T := 86) (cs := #[.string y142.1, .string y142.2, .bool false]) (by kernel_rfl) (by kernel_rfl) (by kernel_rfl)) ?_ ?_; clear h151
      ·
        rintro _ w153 ⟨N154, rfl, hN157, hz158, hk156, hg155⟩
        have ha159 := row_fresh hr138 hN157
        have hB160 := hb_new hB135 hg155
        have hz161 := hB160.size
        have hz162 := hg155.size
        have hr163 := row_kept_new hr138 hg155
        exact hB160
      rintro _ w153 a152 ⟨N154, rfl, hN157, hz158, hk156, hg155⟩ h152
      have ha159 := row_fresh hr138 hN157
      have hB160 := hb_new hB135 hg155
      have hz161 := hB160.size
      have hz162 := hg155.size
      have hr163 := row_kept_new hr138 hg155
      try dsimp only at h152
      refine dr_one (i := 13) h152 rfl (by kernel_rfl) rfl rfl rfl (op_append rfl w.heap.size 86 (z := .agg #[.string (⟨#[]⟩), .string (⟨#[]⟩), .bool false]) (size := 3) (bytes := 40) Try.underlying23 (by kernel_rfl) rfl rfl rfl hr163 rfl hk156 rfl (by kernel_rfl) (by first | omega | (simp only [List.length_nil, List.length_append, List.length_cons, List.length_take, List.length_drop]; omega)) (by first | omega | (simp only [List.length_nil, List.length_append, List.length_cons, List.length_take, List.length_drop]; omega)) (by omega)) ?_ ?_; clear h152
      ·
        rintro v166 w165 ⟨hr167, hg168⟩
        have hr167' : w165.ownsRow w.heap.size 86 3 v166 (((l.take i).map asOp ++ [(y142.1, y142.2, false)]).length) (((l.take i).map asOp ++ [(y142.1, y142.2, false)]).flatMap opE) := row_push (y := (y142.1, y142.2, false)) hr167 rfl rfl; clear hr167
        have hB169 := hb_row hB160 hr163 (by omega) hg168
        have hz170 := hB169.size
        have hz171 := hg168.size
        have hk172 := hk156.kept hg168 (ha159)
        exact hB169
      rintro v166 w165 a164 ⟨hr167, hg168⟩ h164
      have hr167' : w165.ownsRow w.heap.size 86 3 v166 (((l.take i).map asOp ++ [(y142.1, y142.2, false)]).length) (((l.take i).map asOp ++ [(y142.1, y142.2, false)]).flatMap opE) := row_push (y := (y142.1, y142.2, false)) hr167 rfl rfl; clear hr167
      have hB169 := hb_row hB160 hr163 (by omega) hg168
      have hz170 := hB169.size
      have hz171 := hg168.size
      have hk172 := hk156.kept hg168 (ha159)
      refine dr_take (i := 14) (v := v166) h164 rfl (by kernel_rfl) (by kernel_rfl) (by kernel_rfl) rfl rfl rfl hB169 (by kernel_rfl) (fun _ _ => by kernel_rfl) (fun a173 h173 => ?_); clear h164
      refine dr_done (by kernel_rfl) ?_
      refine co_blockN ?_
      refine co_then ?_
      refine co_reg ?_
      refine pl_val (v := .int .i64 ((i : Nat) : Int)) h173 rfl rfl rfl (by kernel_rfl) (by kernel_rfl) (by kernel_rfl) (fun a174 h174 => ?_); clear h173
      refine pl_val (v := .int .i64 ((i + 1 : Nat) : Int)) h174 rfl rfl rfl (by kernel_rfl) (by kernel_rfl) (rn_arith' rfl rfl rfl rfl rfl rfl (IntWalk.i64_in _ (by omega)) (by omega)) (fun a175 h175 => ?_); clear h174
      refine pl_val (v := .int .i64 ((i + 1 : Nat) : Int)) h175 rfl rfl rfl (by kernel_rfl) (by kernel_rfl) (by kernel_rfl) (fun a176 h176 => ?_); clear h175
      refine pl_nil ?_
      refine co_then ?_
      refine ⟨(l.length - (i + 1)), by omega, ?_⟩
      exact ⟨i + 1, v166, h176.sub ⟨rfl, rfl, rfl, rfl, trivial⟩, rfl, by omega, (row_eq hr167' (by first | rfl | exact map_snoc (f := asOp) (by assumption))), hB169⟩
set_option maxRecDepth 100000 in
theorem rsamePairs_any (v : Value) (l : List ValT) (v2 : Value) (l2 : List ValT) (w : World) (hs : SliceOf valE 2 w v l) (hs2 : SliceOf valE 2 w v2 l2) :
    Calls Try.prog 16 #[v, v2] w fun e w' => e = .returned (.bool (sameP l l2)) ∧ Below w.heap.size w w' := by
  have hB0 := Below.refl w.heap.size w
  have hl_hs := sl_len hs
  have hl_hs2 := sl_len hs2
  refine co_enter (n := 32) Try.func16 rfl rfl rfl [(0, v), (1, v2)] rfl (fun a h0 => ?_)
  refine co_seq ?_
  refine co_reg ?_
  refine pl_val (v := .bool false) h0 rfl rfl rfl (by kernel_rfl) (by kernel_rfl) (by kernel_rfl) (fun a1 h1 => ?_); clear h0
  refine pl_nil ?_
  refine co_then ?_
  refine co_seq ?_
  refine co_seq ?_
  refine co_reg ?_
  refine pl_val (v := v) h1 rfl rfl rfl (by kernel_rfl) (by kernel_rfl) (by kernel_rfl) (fun a2 h2 => ?_); clear h1
  refine pl_val (v := .int .i64 ((l.length : Nat) : Int)) h2 rfl rfl rfl (by kernel_rfl) (by kernel_rfl) (rn_len rfl rfl Try.underlying22 hs) (fun a3 h3 => ?_); clear h2
  refine pl_val (v := v2) h3 rfl rfl rfl (by kernel_rfl) (by kernel_rfl) (by kernel_rfl) (fun a4 h4 => ?_); clear h3
  refine pl_val (v := .int .i64 ((l2.length : Nat) : Int)) h4 rfl rfl rfl (by kernel_rfl) (by kernel_rfl) (rn_len rfl rfl Try.underlying22 hs2) (fun a5 h5 => ?_); clear h4
  refine pl_val (v := .bool (((l.length : Nat) : Int) != ((l2.length : Nat) : Int))) h5 rfl rfl rfl (by kernel_rfl) (by kernel_rfl) (by kernel_rfl) (fun a6 h6 => ?_); clear h5
  refine pl_nil ?_
  refine co_then ?_
  cases hc7 : (((l.length : Nat) : Int) != ((l2.length : Nat) : Int))
  ·
    rw [hc7] at h6
    have hp8 : ¬ (((l.length : Nat) : Int) ≠ ((l2.length : Nat) : Int)) := by first | simpa using hc7 | simpa [and_assoc] using hc7
    clear hc7
    refine co_false h6 rfl ?_
    refine wp_skip ?_
    refine co_then ?_
    refine co_seq ?_
    refine co_seq ?_
    refine co_reg ?_
    refine pl_val (v := .int .i64 0) h6 rfl rfl rfl (by kernel_rfl) (by kernel_rfl) (by kernel_rfl) (fun a9 h9 => ?_); clear h6
    refine pl_nil ?_
    refine co_then ?_
    refine wp_block ?_
    have h10 : Slots 32 [(0, v), (1, v2), (4, .bool false), (5, .int .i64 0)] _ := h9.sub ⟨rfl, rfl, rfl, rfl, trivial⟩; clear h9
    refine co_loop (fun mm a x => ∃ (i : Nat), Slots 32 [(0, v), (1, v2), (4, .bool false), (5, .int .i64 ((i : Nat) : Int))] a ∧ mm = l.length - i ∧ (i ≤ l.length) ∧ (l.length = l2.length) ∧ (sameP (l.drop i) (l2.drop i) = sameP l l2) ∧ Below w.heap.size w x) (l.length - 0) ?_ ?_
    · exact ⟨0, h10.sub ⟨rfl, rfl, rfl, (slot_eq rfl (congrArg (Value.int .i64) (by first | rfl | omega))), trivial⟩, rfl, by omega, by omega, by first | rfl | exact hL', hB0⟩
    · rintro k11 a12 w13 ⟨i, h12, rfl, hi14, hi15, hi16, hB17⟩
      have hz18 := hB17.size
      have hL : sameP (l.drop i) (l2.drop i) = sameP l l2 := by assumption
      refine co_seq ?_
      refine co_seq ?_
      refine co_reg ?_
      refine pl_val (v := .int .i64 ((i : Nat) : Int)) h12 rfl rfl rfl (by kernel_rfl) (by kernel_rfl) (by kernel_rfl) (fun a19 h19 => ?_); clear h12
      refine pl_val (v := v) h19 rfl rfl rfl (by kernel_rfl) (by kernel_rfl) (by kernel_rfl) (fun a20 h20 => ?_); clear h19
      refine pl_val (v := .int .i64 ((l.length : Nat) : Int)) h20 rfl rfl rfl (by kernel_rfl) (by kernel_rfl) (rn_len rfl rfl Try.underlying22 (hs.below hB17)) (fun a21 h21 => ?_); clear h20
      refine pl_val (v := .bool (decide (((i : Nat) : Int) < ((l.length : Nat) : Int)))) h21 rfl rfl rfl (by kernel_rfl) (by kernel_rfl) (by kernel_rfl) (fun a22 h22 => ?_); clear h21
      refine pl_val (v := .bool (decide (((i : Nat) : Int) < ((l.length : Nat) : Int)))) h22 rfl rfl rfl (by kernel_rfl) (by kernel_rfl) (by kernel_rfl) (fun a23 h23 => ?_); clear h22
      cases hc24 : (decide (((i : Nat) : Int) < ((l.length : Nat) : Int)))
      ·
        rw [hc24] at h23
        have hp25 : ¬ (((i : Nat) : Int) < ((l.length : Nat) : Int)) := of_decide_eq_false hc24
        clear hc24
        refine pl_skip h23 rfl rfl rfl (fun a26 h26 => ?_); clear h23
        refine pl_skip h26 rfl rfl rfl (fun a27 h27 => ?_); clear h26
        refine pl_skip h27 rfl rfl rfl (fun a28 h28 => ?_); clear h27
        refine pl_skip h28 rfl rfl rfl (fun a29 h29 => ?_); clear h28
        refine pl_val (v := .bool false) h29 rfl rfl rfl (by kernel_rfl) (by kernel_rfl) (by kernel_rfl) (fun a30 h30 => ?_); clear h29
        refine pl_nil ?_
        refine co_then ?_
        refine co_false h30 rfl ?_
        refine wp_exit ?_
        refine co_thenX ?_
        refine co_thenX ?_
        refine co_blockX ?_
        refine co_then ?_
        refine co_seq ?_
        refine co_reg ?_
        refine pl_val (v := .bool true) h30 rfl rfl rfl (by kernel_rfl) (by kernel_rfl) (by kernel_rfl) (fun a31 h31 => ?_); clear h30
        refine pl_nil ?_
        refine co_then ?_
        refine wp_ret ?_
        refine co_ret1 h31 rfl rfl ?_
        exact ⟨ret_bool (sameP_end (i := i) hL (by omega) (by omega)), hB17⟩
      ·
        rw [hc24] at h23
        have hp32 : ((i : Nat) : Int) < ((l.length : Nat) : Int) := of_decide_eq_true hc24
        clear hc24
        refine pl_val (v := .int .i64 ((i : Nat) : Int)) h23 rfl rfl rfl (by kernel_rfl) (by kernel_rfl) (by kernel_rfl) (fun a33 h33 => ?_); clear h23
        refine pl_val (v := v2) h33 rfl rfl rfl (by kernel_rfl) (by kernel_rfl) (by kernel_rfl) (fun a34 h34 => ?_); clear h33
        refine pl_val (v := .int .i64 ((l2.length : Nat) : Int)) h34 rfl rfl rfl (by kernel_rfl) (by kernel_rfl) (rn_len rfl rfl Try.underlying22 (hs2.below hB17)) (fun a35 h35 => ?_); clear h34
        refine pl_val (v := .bool (decide (((i : Nat) : Int) < ((l2.length : Nat) : Int)))) h35 rfl rfl rfl (by kernel_rfl) (by kernel_rfl) (by kernel_rfl) (fun a36 h36 => ?_); clear h35
        refine pl_val (v := .bool (decide (((i : Nat) : Int) < ((l2.length : Nat) : Int)))) h36 rfl rfl rfl (by kernel_rfl) (by kernel_rfl) (by kernel_rfl) (fun a37 h37 => ?_); clear h36
        refine pl_nil ?_
        refine co_then ?_
        have hc38 : (decide (((i : Nat) : Int) < ((l2.length : Nat) : Int))) = true := decide_eq_true (by omega)
        rw [hc38] at h37; clear hc38
        refine co_true h37 rfl ?_
        refine wp_skip ?_
        refine co_then ?_
        refine co_seq ?_
        refine wp_block ?_
        refine co_seq ?_
        refine dr_eq (by kernel_rfl) (fun w39 hg40 => ?_)
        have hB41 := hb_new hB17 hg40
        have hz42 := hB41.size
        have hz43 := hg40.size
        refine dr_take (i := 0) (v := v) h37 rfl (by kernel_rfl) (by kernel_rfl) (by kernel_rfl) rfl rfl rfl rfl (by kernel_rfl) (fun _ _ => by kernel_rfl) (fun a44 h44 => ?_); clear h37
        refine dr_take (i := 1) (v := .int .i64 ((i : Nat) : Int)) h44 rfl (by kernel_rfl) (by kernel_rfl) (by kernel_rfl) rfl rfl rfl rfl (by kernel_rfl) (fun _ _ => by kernel_rfl) (fun a45 h45 => ?_); clear h44
        obtain ⟨y46, hy46⟩ : ∃ z, l[i]? = some z := ⟨_, List.getElem?_eq_getElem (by first | omega | (simp; done) | (simp; omega))⟩
        refine dr_take (i := 2) (v := .pointer (some ⟨(blkOf v), offOf v + i * 2, none⟩)) h45 rfl (by kernel_rfl) (by kernel_rfl) (by kernel_rfl) rfl rfl rfl rfl (by kernel_rfl) (fun x hx => by subst hx; exact (rn_index rfl rfl rfl Try.underlying22 Try.sizeOf88 (hs.below hB41) (by omega) (by first | omega | (simp; done) | (simp; omega)))) (fun a47 h47 => ?_); clear h45
        refine dr_take (i := 3) (v := .agg #[.string y46.1, .string y46.2]) h47 rfl (by kernel_rfl) (by kernel_rfl) (by kernel_rfl) rfl rfl rfl rfl (by kernel_rfl) (fun x hx => by subst hx; exact (rn_loadN rfl rfl Try.underlying88 rfl (by kernel_rfl) (sl_at (hs.below hB41) hy46))) (fun a48 h48 => ?_); clear h47
        refine dr_take (i := 4) (v := v2) h48 rfl (by kernel_rfl) (by kernel_rfl) (by kernel_rfl) rfl rfl rfl rfl (by kernel_rfl) (fun _ _ => by kernel_rfl) (fun a49 h49 => ?_); clear h48
        refine dr_take (i := 5) (v := .int .i64 ((i : Nat) : Int)) h49 rfl (by kernel_rfl) (by kernel_rfl) (by kernel_rfl) rfl rfl rfl rfl (by kernel_rfl) (fun _ _ => by kernel_rfl) (fun a50 h50 => ?_); clear h49
        obtain ⟨y51, hy51⟩ : ∃ z, l2[i]? = some z := ⟨_, List.getElem?_eq_getElem (by first | omega | (simp; done) | (simp; omega))⟩
        refine dr_take (i := 6) (v := .pointer (some ⟨(blkOf v2), offOf v2 + i * 2, none⟩)) h50 rfl (by kernel_rfl) (by kernel_rfl) (by kernel_rfl) rfl rfl rfl rfl (by kernel_rfl) (fun x hx => by subst hx; exact (rn_index rfl rfl rfl Try.underlying22 Try.sizeOf88 (hs2.below hB41) (by omega) (by first | omega | (simp; done) | (simp; omega)))) (fun a52 h52 => ?_); clear h50
        refine dr_take (i := 7) (v := .agg #[.string y51.1, .string y51.2]) h52 rfl (by kernel_rfl) (by kernel_rfl) (by kernel_rfl) rfl rfl rfl rfl (by kernel_rfl) (fun x hx => by subst hx; exact (rn_loadN rfl rfl Try.underlying88 rfl (by kernel_rfl) (sl_at (hs2.below hB41) hy51))) (fun a53 h53 => ?_); clear h52
        refine dr_take (i := 8) (v := .bool (!(y46.1.toList == y51.1.toList && y46.2.toList == y51.2.toList))) h53 rfl (by kernel_rfl) (by kernel_rfl) (by kernel_rfl) rfl rfl rfl rfl (by kernel_rfl) (fun x hx => by subst hx; exact (rn_neS rfl rfl rfl Try.eqGuardType88 (eq_pair _ _ _ _ _))) (fun a54 h54 => ?_); clear h53
        refine dr_done (by kernel_rfl) ?_
        refine co_then ?_
        cases hc55 : (!(y46.1.toList == y51.1.toList && y46.2.toList == y51.2.toList))
        ·
          rw [hc55] at h54
          refine co_false h54 rfl ?_
          refine wp_skip ?_
          refine co_blockN ?_
          refine co_then ?_
          refine co_reg ?_
          refine pl_val (v := .int .i64 ((i : Nat) : Int)) h54 rfl rfl rfl (by kernel_rfl) (by kernel_rfl) (by kernel_rfl) (fun a56 h56 => ?_); clear h54
          refine pl_val (v := .int .i64 ((i + 1 : Nat) : Int)) h56 rfl rfl rfl (by kernel_rfl) (by kernel_rfl) (rn_arith' rfl rfl rfl rfl rfl rfl (IntWalk.i64_in _ (by omega)) (by omega)) (fun a57 h57 => ?_); clear h56
          refine pl_val (v := .int .i64 ((i + 1 : Nat) : Int)) h57 rfl rfl rfl (by kernel_rfl) (by kernel_rfl) (by kernel_rfl) (fun a58 h58 => ?_); clear h57
          refine pl_nil ?_
          refine co_then ?_
          refine ⟨(l.length - (i + 1)), by omega, ?_⟩
          have hL' := sameP_step (i := i) hL hy46 hy51 (eqP_of (b := false) (by assumption))
          exact ⟨i + 1, h58.sub ⟨rfl, rfl, rfl, rfl, trivial⟩, rfl, by omega, by omega, by first | rfl | exact hL', hB41⟩
        ·
          rw [hc55] at h54
          refine co_true h54 rfl ?_
          refine co_seq ?_
          refine co_reg ?_
          refine pl_val (v := .bool false) h54 rfl rfl rfl (by kernel_rfl) (by kernel_rfl) (by kernel_rfl) (fun a59 h59 => ?_); clear h54
          refine pl_nil ?_
          refine co_then ?_
          refine wp_ret ?_
          refine co_blockR ?_
          refine co_thenR ?_
          refine co_thenR ?_
          refine co_blockR ?_
          refine co_thenR ?_
          refine co_ret1 h59 rfl rfl ?_
          exact ⟨ret_bool (sameP_no (i := i) hL hy46 hy51 (eqP_of (b := true) (by assumption))), hB41⟩
  ·
    rw [hc7] at h6
    have hp60 : ((l.length : Nat) : Int) ≠ ((l2.length : Nat) : Int) := by first | simpa using hc7 | simpa [and_assoc] using hc7
    clear hc7
    refine co_true h6 rfl ?_
    refine co_seq ?_
    refine co_reg ?_
    refine pl_val (v := .bool false) h6 rfl rfl rfl (by kernel_rfl) (by kernel_rfl) (by kernel_rfl) (fun a61 h61 => ?_); clear h6
    refine pl_nil ?_
    refine co_then ?_
    refine wp_ret ?_
    refine co_thenR ?_
    refine co_ret1 h61 rfl rfl ?_
    exact ⟨ret_bool (sameP_len (by omega)), hB0⟩
end Go.Proofs.Yteioaaegooebpaa

/- catenalaw06: OpsOver. Conditions: none. -/
namespace Go.Proofs.Yteioaaegooebpaa
open Go.RowKit Go.PlainAid
set_option linter.unusedVariables false

open Go.Sort Go.Shelf Go.Lib Go.ChangeShapes Go.WideShapes Go.Deep

def lastK {V : Type} (key : V → ByteArray) (l : List V) : ByteArray → Option V := l.foldl (fun g o b => if b = key o then some o else g b) (fun _ => none)
theorem lastK_snoc {V : Type} (key : V → ByteArray) (l : List V) (o : V) : lastK key (l ++ [o]) = fun b => if b = key o then some o else lastK key l b := by unfold lastK; rw [List.foldl_append]; rfl
theorem lastK_mem {V : Type} (key : V → ByteArray) (l : List V) : (l.map key).Nodup → ∀ k v, lastK key l k = some v ↔ v ∈ l ∧ key v = k := by
  refine snoc_ind (C := fun l => (l.map key).Nodup → ∀ k v, lastK key l k = some v ↔ v ∈ l ∧ key v = k) (fun _ k v => by simp [lastK]) (fun l o ih hn k v => ?_) l
  rw [List.map_append, List.map_cons, List.map_nil, List.nodup_append] at hn
  have ih := ih hn.1
  rw [lastK_snoc, List.mem_append, List.mem_singleton]
  by_cases e : k = key o
  · simp only [e, if_true, Option.some.injEq]
    constructor
    · rintro rfl; exact ⟨.inr rfl, rfl⟩
    · rintro ⟨h1 | h1, h2⟩
      · exact absurd h2 (fun h2 => hn.2.2 (key v) (List.mem_map_of_mem h1) (key o) (by simp) h2)
      · exact h1.symm
  · simp only [e, if_false]
    rw [ih]
    constructor
    · rintro ⟨h1, h2⟩; exact ⟨.inl h1, h2⟩
    · rintro ⟨h1 | h1, h2⟩
      · exact ⟨h1, h2⟩
      · subst h1; exact absurd h2.symm e
theorem SetG.fn {V : Type} {key : V → ByteArray} {g : ByteArray → Option V} {ys : List V} (h : SetG key g ys) (hk : ∀ k v, g k = some v → key v = k) : lastK key ys = g := by
  have hnd : (ys.map key).Nodup := by
    rw [List.Nodup, List.pairwise_map]
    exact h.1.imp (fun {a b} hab e => by rw [e] at hab; exact List.lt_irrefl _ hab)
  funext k
  have hm := lastK_mem key ys hnd k
  cases hg : g k with
  | some v => exact (hm v).2 ⟨(h.2 v).2 ⟨k, hg⟩, hk k v hg⟩
  | none =>
    cases hl : lastK key ys k with
    | none => rfl
    | some v =>
      obtain ⟨h1, h2⟩ := (hm v).1 hl
      obtain ⟨k', hk'⟩ := (h.2 v).1 h1
      have := hk k' v hk'
      rw [h2] at this; subst this
      rw [hg] at hk'; cases hk'
theorem lastG_K (l : List OpT) : lastG l = lastK (fun y : OpT => y.1) l := rfl
theorem pairG_K (l : List ValT) : pairG l = lastK (fun y : ValT => y.1) l := rfl
theorem lastG_or (a b : List OpT) : ∀ k, lastG (a ++ b) k = (lastG b k).or (lastG a k) := by
  refine snoc_ind (C := fun b => ∀ k, lastG (a ++ b) k = (lastG b k).or (lastG a k)) (fun k => by rw [List.append_nil]; rfl) (fun b o ih k => ?_) b
  rw [← List.append_assoc, lastG_snoc, lastG_snoc]
  unfold lastF
  by_cases e : k = o.1
  · rw [if_pos e, if_pos e]; rfl
  · rw [if_neg e, if_neg e, ih k]
theorem over_norm {l : List ValT} {m ys : List OpT} (h : SetG (fun y : OpT => y.1) (lastG m) ys) : ovG l ys = ovG l m := by
  have e : lastG ys = lastG m := h.fn (lastG_key m)
  funext k
  rw [ov_last, ov_last, lastG_or, lastG_or, e]
theorem over_both {l ys : List ValT} {m n : List OpT} (h : SetG (fun y : ValT => y.1) (ovG l m) ys) : ovG ys n = ovG l (m ++ n) := by
  have e : pairG ys = ovG l m := h.fn (ovG_key l m)
  show n.foldl ovF (pairG ys) = (m ++ n).foldl ovF (pairG l)
  rw [List.foldl_append, e]; rfl

set_option maxRecDepth 100000 in
theorem opsOver_law (v : Value) (l : List ValT) (v2 : Value) (m : List OpT) (v3 : Value) (n : List OpT) (w : World) (hs : SliceOf valE 2 w v l) (hs2 : SliceOf opE 3 w v2 m) (hs3 : SliceOf opE 3 w v3 n) :
    Calls Try.prog 3 #[v, v2, v3] w fun e w' => e = .returned (.bool true) ∧ Below w.heap.size w w' := by
  have hB0 := Below.refl w.heap.size w
  have hl_hs := sl_len hs
  have hl_hs2 := sl_len hs2
  have hl_hs3 := sl_len hs3
  refine co_enter (n := 63) Try.func3 rfl rfl rfl [(0, v), (1, v2), (2, v3)] rfl (fun a h0 => ?_)
  refine co_seq ?_
  refine co_reg ?_
  refine pl_val (v := .bool false) h0 rfl rfl rfl (by kernel_rfl) (by kernel_rfl) (by kernel_rfl) (fun a1 h1 => ?_); clear h0
  refine pl_nil ?_
  refine co_then ?_
  refine co_seq ?_
  refine co_seq ?_
  refine co_reg ?_
  refine pl_val (v := v) h1 rfl rfl rfl (by kernel_rfl) (by kernel_rfl) (by kernel_rfl) (fun a2 h2 => ?_); clear h1
  refine pl_val (v := .int .i64 ((l.length : Nat) : Int)) h2 rfl rfl rfl (by kernel_rfl) (by kernel_rfl) (rn_len rfl rfl Try.underlying22 hs) (fun a3 h3 => ?_); clear h2
  refine pl_val (v := .bool (decide (((l.length : Nat) : Int) > 30))) h3 rfl rfl rfl (by kernel_rfl) (by kernel_rfl) (by kernel_rfl) (fun a4 h4 => ?_); clear h3
  refine pl_val (v := .bool (decide (((l.length : Nat) : Int) > 30))) h4 rfl rfl rfl (by kernel_rfl) (by kernel_rfl) (by kernel_rfl) (fun a5 h5 => ?_); clear h4
  cases hc6 : (decide (((l.length : Nat) : Int) > 30))
  ·
    rw [hc6] at h5
    have hp7 : ¬ (((l.length : Nat) : Int) > 30) := of_decide_eq_false hc6
    clear hc6
    refine pl_val (v := v2) h5 rfl rfl rfl (by kernel_rfl) (by kernel_rfl) (by kernel_rfl) (fun a8 h8 => ?_); clear h5
    refine pl_val (v := .int .i64 ((m.length : Nat) : Int)) h8 rfl rfl rfl (by kernel_rfl) (by kernel_rfl) (rn_len rfl rfl Try.underlying23 hs2) (fun a9 h9 => ?_); clear h8
    refine pl_val (v := .bool (decide (((m.length : Nat) : Int) > 30))) h9 rfl rfl rfl (by kernel_rfl) (by kernel_rfl) (by kernel_rfl) (fun a10 h10 => ?_); clear h9
    refine pl_val (v := .bool (decide (((m.length : Nat) : Int) > 30))) h10 rfl rfl rfl (by kernel_rfl) (by kernel_rfl) (by kernel_rfl) (fun a11 h11 => ?_); clear h10
    refine pl_val (v := .bool (decide (((m.length : Nat) : Int) > 30))) h11 rfl rfl rfl (by kernel_rfl) (by kernel_rfl) (by kernel_rfl) (fun a12 h12 => ?_); clear h11
    cases hc13 : (decide (((m.length : Nat) : Int) > 30))
    ·
      rw [hc13] at h12
      have hp14 : ¬ (((m.length : Nat) : Int) > 30) := of_decide_eq_false hc13
      clear hc13
      refine pl_val (v := v3) h12 rfl rfl rfl (by kernel_rfl) (by kernel_rfl) (by kernel_rfl) (fun a15 h15 => ?_); clear h12
      refine pl_val (v := .int .i64 ((n.length : Nat) : Int)) h15 rfl rfl rfl (by kernel_rfl) (by kernel_rfl) (rn_len rfl rfl Try.underlying23 hs3) (fun a16 h16 => ?_); clear h15
      refine pl_val (v := .bool (decide (((n.length : Nat) : Int) > 30))) h16 rfl rfl rfl (by kernel_rfl) (by kernel_rfl) (by kernel_rfl) (fun a17 h17 => ?_); clear h16
      refine pl_val (v := .bool (decide (((n.length : Nat) : Int) > 30))) h17 rfl rfl rfl (by kernel_rfl) (by kernel_rfl) (by kernel_rfl) (fun a18 h18 => ?_); clear h17
      refine pl_nil ?_
      refine co_then ?_
      cases hc19 : (decide (((n.length : Nat) : Int) > 30))
      ·
        rw [hc19] at h18
        have hp20 : ¬ (((n.length : Nat) : Int) > 30) := of_decide_eq_false hc19
        clear hc19
        refine co_false h18 rfl ?_
        refine wp_skip ?_
        refine co_then ?_
        refine co_seq ?_
        refine co_reg ?_
        refine pl_val (v := v) h18 rfl rfl rfl (by kernel_rfl) (by kernel_rfl) (by kernel_rfl) (fun a21 h21 => ?_); clear h18
        refine pl_val (v := v2) h21 rfl rfl rfl (by kernel_rfl) (by kernel_rfl) (by kernel_rfl) (fun a22 h22 => ?_); clear h21
        refine pl_want h22 rfl rfl rfl (op_call (args := #[v, v2]) (R := fun res xw => ∃ ys : List ValT, ∃ u : Value, res = u ∧ xw.ownsRow w.heap.size 88 2 u ys.length (ys.flatMap valE) ∧ SetG (fun y : ValT => y.1) (ovG l m) ys ∧ ys.length ≤ l.length + m.length ∧ Below w.heap.size w xw) rfl rfl rfl (by kernel_rfl) (by kernel_rfl) (Try.call12 _ _) (opsOver_any v l v2 m w hs hs2 (by first | omega | (simp; done) | (simp; omega))) (by rintro e x ⟨ys, u, rfl, hq27, hq28, hq29, hb30⟩; exact ⟨_, rfl, ⟨ys, u, rfl, hq27, hq28, hq29, hb30⟩⟩)) ?_; clear h22
        rintro u26 w24 a23 ⟨ys25, _, rfl, hq27, hq28, hq29, hb30⟩ h23
        have hB31 := hb_call hB0 hb30
        have hz32 := hB31.size
        have hz33 := hb30.size
        have hl34 := sl_len (row_sl hq27 valE_len)
        refine pl_val (v := u26) h23 rfl rfl rfl (by kernel_rfl) (by kernel_rfl) (by kernel_rfl) (fun a35 h35 => ?_); clear h23
        refine pl_nil ?_
        refine co_then ?_
        refine co_seq ?_
        refine co_reg ?_
        refine pl_want h35 rfl rfl rfl (op_new (v := fun N => .slice (some ⟨N, 0, none⟩) 0 0) (T := 86) (cs := #[]) (by kernel_rfl) (by kernel_rfl) (by kernel_rfl)) ?_; clear h35
        rintro _ w37 a36 ⟨N38, rfl, hN41, hz42, hk40, hg39⟩ h36
        have ha43 := row_fresh hq27 hN41
        have hB44 := hb_new hB31 hg39
        have hz45 := hB44.size
        have hz46 := hg39.size
        have hr47 := row_kept_new hq27 hg39
        try dsimp only at h36
        refine pl_val (v := v2) h36 rfl rfl rfl (by kernel_rfl) (by kernel_rfl) (by kernel_rfl) (fun a48 h48 => ?_); clear h36
        have hr51 := row_of_blkL hk40 (Nat.le_refl _) 3 opE
        refine pl_want h48 rfl rfl rfl (op_appendSrc rfl N38 86 (z := .agg #[.string (⟨#[]⟩), .string (⟨#[]⟩), .bool false]) (size := 3) (bytes := 40) Try.underlying23 (by kernel_rfl) rfl rfl rfl hr51 rfl (hs2.below hB44) (fun y _ => ⟨opE_len y, opE_one y⟩) (by first | omega | (simp only [List.length_nil, List.length_append, List.length_cons, List.length_take, List.length_drop]; omega)) (by first | omega | (simp only [List.length_nil, List.length_append, List.length_cons, List.length_take, List.length_drop]; omega)) (by omega)) ?_; clear h48
        rintro v52 w50 a49 ⟨hr53, hg54⟩ h49
        have hr53' : w50.ownsRow N38 86 3 v52 m.length (m.flatMap opE) := row_app (l := []) hr53; clear hr53
        have hB55 := hb_row hB44 hr51 (by omega) hg54
        have hz56 := hB55.size
        have hz57 := hg54.size
        have hr58 := row_kept_row hr47 hr51 hg54 (by decide)
        refine pl_val (v := v3) h49 rfl rfl rfl (by kernel_rfl) (by kernel_rfl) (by kernel_rfl) (fun a59 h59 => ?_); clear h49
        refine pl_want h59 rfl rfl rfl (op_appendSrc rfl N38 86 (z := .agg #[.string (⟨#[]⟩), .string (⟨#[]⟩), .bool false]) (size := 3) (bytes := 40) Try.underlying23 (by kernel_rfl) rfl rfl rfl hr53' rfl (hs3.below hB55) (fun y _ => ⟨opE_len y, opE_one y⟩) (by first | omega | (simp only [List.length_nil, List.length_append, List.length_cons, List.length_take, List.length_drop]; omega)) (by first | omega | (simp only [List.length_nil, List.length_append, List.length_cons, List.length_take, List.length_drop]; omega)) (by omega)) ?_; clear h59
        rintro v62 w61 a60 ⟨hr63, hg64⟩ h60
        have hr63' : w61.ownsRow N38 86 3 v62 ((m ++ n).length) ((m ++ n).flatMap opE) := row_app hr63; clear hr63
        have hB65 := hb_row hB55 hr53' (by omega) hg64
        have hz66 := hB65.size
        have hz67 := hg64.size
        have hr68 := row_kept_row hr58 hr53' hg64 (by decide)
        refine pl_val (v := v62) h60 rfl rfl rfl (by kernel_rfl) (by kernel_rfl) (by kernel_rfl) (fun a69 h69 => ?_); clear h60
        refine pl_nil ?_
        refine co_then ?_
        refine co_seq ?_
        refine co_reg ?_
        refine pl_val (v := v2) h69 rfl rfl rfl (by kernel_rfl) (by kernel_rfl) (by kernel_rfl) (fun a70 h70 => ?_); clear h69
        refine pl_want h70 rfl rfl rfl (op_call (args := #[v2]) (R := fun res xw => ∃ ys : List OpT, ∃ u : Value, res = u ∧ xw.ownsRow w61.heap.size 86 3 u ys.length (ys.flatMap opE) ∧ SetG (fun y : OpT => y.1) (lastG m) ys ∧ ys.length ≤ m.length ∧ Below w61.heap.size w61 xw) rfl rfl rfl (by kernel_rfl) (by kernel_rfl) (Try.call14 _ _) (opsNorm_any v2 m w61 (hs2.below hB65) (by first | omega | (simp; done) | (simp; omega))) (by rintro e x ⟨ys, u, rfl, hq75, hq76, hq77, hb78⟩; exact ⟨_, rfl, ⟨ys, u, rfl, hq75, hq76, hq77, hb78⟩⟩)) ?_; clear h70
        rintro u74 w72 a71 ⟨ys73, _, rfl, hq75, hq76, hq77, hb78⟩ h71
        have hB79 := hb_call hB65 hb78
        have hz80 := hB79.size
        have hz81 := hb78.size
        have hr82 := row_kept_new hr68 (below_grown hb78)
        have hr83 := row_kept_new hr63' (below_grown hb78)
        have hl84 := sl_len (row_sl hq75 opE_len)
        refine pl_val (v := v2) h71 rfl rfl rfl (by kernel_rfl) (by kernel_rfl) (by kernel_rfl) (fun a85 h85 => ?_); clear h71
        refine pl_want h85 rfl rfl rfl (op_call (args := #[v2]) (R := fun res xw => ∃ ys : List OpT, ∃ u : Value, res = u ∧ xw.ownsRow w72.heap.size 86 3 u ys.length (ys.flatMap opE) ∧ SetG (fun y : OpT => y.1) (lastG m) ys ∧ ys.length ≤ m.length ∧ Below w72.heap.size w72 xw) rfl rfl rfl (by kernel_rfl) (by kernel_rfl) (Try.call15 _ _) (ropsNorm_any v2 m w72 (hs2.below hB79) (by first | omega | (simp; done) | (simp; omega))) (by rintro e x ⟨ys, u, rfl, hq90, hq91, hq92, hb93⟩; exact ⟨_, rfl, ⟨ys, u, rfl, hq90, hq91, hq92, hb93⟩⟩)) ?_; clear h85
        rintro u89 w87 a86 ⟨ys88, _, rfl, hq90, hq91, hq92, hb93⟩ h86
        have hB94 := hb_call hB79 hb93
        have hz95 := hB94.size
        have hz96 := hb93.size
        have hr97 := row_kept_new hr82 (below_grown hb93)
        have hr98 := row_kept_new hr83 (below_grown hb93)
        have hr99 := row_kept_new hq75 (below_grown hb93)
        have heq3 : ys73 = ys88 := (SetG.uniq hq91 hq76).symm
        subst heq3
        have hl100 := sl_len (row_sl hq90 opE_len)
        refine pl_want h86 rfl rfl rfl (op_call (args := #[u74, u89]) (R := fun res xw => res = .bool (sameL ys73 ys73) ∧ Below w87.heap.size w87 xw) rfl rfl rfl (by kernel_rfl) (by kernel_rfl) (Try.call13 _ _) (rsameOps_any u74 ys73 u89 ys73 w87 (row_sl hr99 opE_len) (row_sl hq90 opE_len)) (by rintro e x ⟨rfl, hb103⟩; exact ⟨_, rfl, ⟨rfl, hb103⟩⟩)) ?_; clear h86
        rintro _ w102 a101 ⟨rfl, hb103⟩ h101
        have hB104 := hb_call hB94 hb103
        have hz105 := hB104.size
        have hz106 := hb103.size
        have hr107 := row_kept_new hr97 (below_grown hb103)
        have hr108 := row_kept_new hr98 (below_grown hb103)
        have hr109 := row_kept_new hr99 (below_grown hb103)
        have hr110 := row_kept_new hq90 (below_grown hb103)
        refine pl_val (v := .bool (sameL ys73 ys73)) h101 rfl rfl rfl (by kernel_rfl) (by kernel_rfl) (by kernel_rfl) (fun a111 h111 => ?_); clear h101
        have hc112 : (sameL ys73 ys73) = true := sameL_refl _
        rw [hc112] at h111; clear hc112
        refine pl_val (v := u26) h111 rfl rfl rfl (by kernel_rfl) (by kernel_rfl) (by kernel_rfl) (fun a113 h113 => ?_); clear h111
        refine pl_val (v := v) h113 rfl rfl rfl (by kernel_rfl) (by kernel_rfl) (by kernel_rfl) (fun a114 h114 => ?_); clear h113
        refine pl_val (v := v2) h114 rfl rfl rfl (by kernel_rfl) (by kernel_rfl) (by kernel_rfl) (fun a115 h115 => ?_); clear h114
        refine pl_want h115 rfl rfl rfl (op_call (args := #[v, v2]) (R := fun res xw => ∃ ys : List ValT, ∃ u : Value, res = u ∧ xw.ownsRow w102.heap.size 88 2 u ys.length (ys.flatMap valE) ∧ SetG (fun y : ValT => y.1) (ovG l m) ys ∧ ys.length ≤ l.length + m.length ∧ Below w102.heap.size w102 xw) rfl rfl rfl (by kernel_rfl) (by kernel_rfl) (Try.call17 _ _) (ropsOver_any v l v2 m w102 (hs.below hB104) (hs2.below hB104) (by first | omega | (simp; done) | (simp; omega))) (by rintro e x ⟨ys, u, rfl, hq120, hq121, hq122, hb123⟩; exact ⟨_, rfl, ⟨ys, u, rfl, hq120, hq121, hq122, hb123⟩⟩)) ?_; clear h115
        rintro u119 w117 a116 ⟨ys118, _, rfl, hq120, hq121, hq122, hb123⟩ h116
        have hB124 := hb_call hB104 hb123
        have hz125 := hB124.size
        have hz126 := hb123.size
        have hr127 := row_kept_new hr107 (below_grown hb123)
        have hr128 := row_kept_new hr108 (below_grown hb123)
        have hr129 := row_kept_new hr109 (below_grown hb123)
        have hr130 := row_kept_new hr110 (below_grown hb123)
        have heq4 : ys25 = ys118 := (SetG.uniq hq121 hq28).symm
        subst heq4
        have hl131 := sl_len (row_sl hq120 valE_len)
        refine pl_want h116 rfl rfl rfl (op_call (args := #[u26, u119]) (R := fun res xw => res = .bool (sameP ys25 ys25) ∧ Below w117.heap.size w117 xw) rfl rfl rfl (by kernel_rfl) (by kernel_rfl) (Try.call16 _ _) (rsamePairs_any u26 ys25 u119 ys25 w117 (row_sl hr127 valE_len) (row_sl hq120 valE_len)) (by rintro e x ⟨rfl, hb134⟩; exact ⟨_, rfl, ⟨rfl, hb134⟩⟩)) ?_; clear h116
        rintro _ w133 a132 ⟨rfl, hb134⟩ h132
        have hB135 := hb_call hB124 hb134
        have hz136 := hB135.size
        have hz137 := hb134.size
        have hr138 := row_kept_new hr127 (below_grown hb134)
        have hr139 := row_kept_new hr128 (below_grown hb134)
        have hr140 := row_kept_new hr129 (below_grown hb134)
        have hr141 := row_kept_new hr130 (below_grown hb134)
        have hr142 := row_kept_new hq120 (below_grown hb134)
        refine pl_val (v := .bool (sameP ys25 ys25)) h132 rfl rfl rfl (by kernel_rfl) (by kernel_rfl) (by kernel_rfl) (fun a143 h143 => ?_); clear h132
        refine pl_val (v := .bool (sameP ys25 ys25)) h143 rfl rfl rfl (by kernel_rfl) (by kernel_rfl) (by kernel_rfl) (fun a144 h144 => ?_); clear h143
        have hc145 : (sameP ys25 ys25) = true := sameP_refl _
        rw [hc145] at h144; clear hc145
        refine pl_val (v := v) h144 rfl rfl rfl (by kernel_rfl) (by kernel_rfl) (by kernel_rfl) (fun a146 h146 => ?_); clear h144
        refine pl_val (v := v2) h146 rfl rfl rfl (by kernel_rfl) (by kernel_rfl) (by kernel_rfl) (fun a147 h147 => ?_); clear h146
        refine pl_want h147 rfl rfl rfl (op_call (args := #[v2]) (R := fun res xw => ∃ ys : List OpT, ∃ u : Value, res = u ∧ xw.ownsRow w133.heap.size 86 3 u ys.length (ys.flatMap opE) ∧ SetG (fun y : OpT => y.1) (lastG m) ys ∧ ys.length ≤ m.length ∧ Below w133.heap.size w133 xw) rfl rfl rfl (by kernel_rfl) (by kernel_rfl) (Try.call14 _ _) (opsNorm_any v2 m w133 (hs2.below hB135) (by first | omega | (simp; done) | (simp; omega))) (by rintro e x ⟨ys, u, rfl, hq152, hq153, hq154, hb155⟩; exact ⟨_, rfl, ⟨ys, u, rfl, hq152, hq153, hq154, hb155⟩⟩)) ?_; clear h147
        rintro u151 w149 a148 ⟨ys150, _, rfl, hq152, hq153, hq154, hb155⟩ h148
        have hB156 := hb_call hB135 hb155
        have hz157 := hB156.size
        have hz158 := hb155.size
        have hr159 := row_kept_new hr138 (below_grown hb155)
        have hr160 := row_kept_new hr139 (below_grown hb155)
        have hr161 := row_kept_new hr140 (below_grown hb155)
        have hr162 := row_kept_new hr141 (below_grown hb155)
        have hr163 := row_kept_new hr142 (below_grown hb155)
        have heq5 : ys73 = ys150 := (SetG.uniq hq153 hq76).symm
        subst heq5
        have hl164 := sl_len (row_sl hq152 opE_len)
        refine pl_want h148 rfl rfl rfl (op_call (args := #[v, u151]) (R := fun res xw => ∃ ys : List ValT, ∃ u : Value, res = u ∧ xw.ownsRow w149.heap.size 88 2 u ys.length (ys.flatMap valE) ∧ SetG (fun y : ValT => y.1) (ovG l ys73) ys ∧ ys.length ≤ l.length + ys73.length ∧ Below w149.heap.size w149 xw) rfl rfl rfl (by kernel_rfl) (by kernel_rfl) (Try.call12 _ _) (opsOver_any v l u151 ys73 w149 (hs.below hB156) (row_sl hq152 opE_len) (by first | omega | (simp; done) | (simp; omega))) (by rintro e x ⟨ys, u, rfl, hq169, hq170, hq171, hb172⟩; exact ⟨_, rfl, ⟨ys, u, rfl, hq169, hq170, hq171, hb172⟩⟩)) ?_; clear h148
        rintro u168 w166 a165 ⟨ys167, _, rfl, hq169, hq170, hq171, hb172⟩ h165
        have hB173 := hb_call hB156 hb172
        have hz174 := hB173.size
        have hz175 := hb172.size
        have hr176 := row_kept_new hr159 (below_grown hb172)
        have hr177 := row_kept_new hr160 (below_grown hb172)
        have hr178 := row_kept_new hr161 (below_grown hb172)
        have hr179 := row_kept_new hr162 (below_grown hb172)
        have hr180 := row_kept_new hr163 (below_grown hb172)
        have hr181 := row_kept_new hq152 (below_grown hb172)
        have hrw6 := hq170; rw [over_norm hq76] at hrw6
        have heq6 : ys25 = ys167 := (SetG.uniq hrw6 hq28).symm
        subst heq6
        have hl182 := sl_len (row_sl hq169 valE_len)
        refine pl_val (v := u26) h165 rfl rfl rfl (by kernel_rfl) (by kernel_rfl) (by kernel_rfl) (fun a183 h183 => ?_); clear h165
        refine pl_want h183 rfl rfl rfl (op_call (args := #[u168, u26]) (R := fun res xw => res = .bool (sameP ys25 ys25) ∧ Below w166.heap.size w166 xw) rfl rfl rfl (by kernel_rfl) (by kernel_rfl) (Try.call16 _ _) (rsamePairs_any u168 ys25 u26 ys25 w166 (row_sl hq169 valE_len) (row_sl hr176 valE_len)) (by rintro e x ⟨rfl, hb186⟩; exact ⟨_, rfl, ⟨rfl, hb186⟩⟩)) ?_; clear h183
        rintro _ w185 a184 ⟨rfl, hb186⟩ h184
        have hB187 := hb_call hB173 hb186
        have hz188 := hB187.size
        have hz189 := hb186.size
        have hr190 := row_kept_new hr176 (below_grown hb186)
        have hr191 := row_kept_new hr177 (below_grown hb186)
        have hr192 := row_kept_new hr178 (below_grown hb186)
        have hr193 := row_kept_new hr179 (below_grown hb186)
        have hr194 := row_kept_new hr180 (below_grown hb186)
        have hr195 := row_kept_new hr181 (below_grown hb186)
        have hr196 := row_kept_new hq169 (below_grown hb186)
        refine pl_val (v := .bool (sameP ys25 ys25)) h184 rfl rfl rfl (by kernel_rfl) (by kernel_rfl) (by kernel_rfl) (fun a197 h197 => ?_); clear h184
        refine pl_val (v := .bool (sameP ys25 ys25)) h197 rfl rfl rfl (by kernel_rfl) (by kernel_rfl) (by kernel_rfl) (fun a198 h198 => ?_); clear h197
        have hc199 : (sameP ys25 ys25) = true := sameP_refl _
        rw [hc199] at h198; clear hc199
        refine pl_val (v := u26) h198 rfl rfl rfl (by kernel_rfl) (by kernel_rfl) (by kernel_rfl) (fun a200 h200 => ?_); clear h198
        refine pl_val (v := v3) h200 rfl rfl rfl (by kernel_rfl) (by kernel_rfl) (by kernel_rfl) (fun a201 h201 => ?_); clear h200
        refine pl_want h201 rfl rfl rfl (op_call (args := #[u26, v3]) (R := fun res xw => ∃ ys : List ValT, ∃ u : Value, res = u ∧ xw.ownsRow w185.heap.size 88 2 u ys.length (ys.flatMap valE) ∧ SetG (fun y : ValT => y.1) (ovG ys25 n) ys ∧ ys.length ≤ ys25.length + n.length ∧ Below w185.heap.size w185 xw) rfl rfl rfl (by kernel_rfl) (by kernel_rfl) (Try.call12 _ _) (opsOver_any u26 ys25 v3 n w185 (row_sl hr190 valE_len) (hs3.below hB187) (by first | omega | (simp; done) | (simp; omega))) (by rintro e x ⟨ys, u, rfl, hq206, hq207, hq208, hb209⟩; exact ⟨_, rfl, ⟨ys, u, rfl, hq206, hq207, hq208, hb209⟩⟩)) ?_; clear h201
        rintro u205 w203 a202 ⟨ys204, _, rfl, hq206, hq207, hq208, hb209⟩ h202
        have hB210 := hb_call hB187 hb209
        have hz211 := hB210.size
        have hz212 := hb209.size
        have hr213 := row_kept_new hr190 (below_grown hb209)
        have hr214 := row_kept_new hr191 (below_grown hb209)
        have hr215 := row_kept_new hr192 (below_grown hb209)
        have hr216 := row_kept_new hr193 (below_grown hb209)
        have hr217 := row_kept_new hr194 (below_grown hb209)
        have hr218 := row_kept_new hr195 (below_grown hb209)
        have hr219 := row_kept_new hr196 (below_grown hb209)
        have hrw7 := hq207; rw [over_both hq28] at hrw7
        have hl220 := sl_len (row_sl hq206 valE_len)
        refine pl_val (v := v) h202 rfl rfl rfl (by kernel_rfl) (by kernel_rfl) (by kernel_rfl) (fun a221 h221 => ?_); clear h202
        refine pl_val (v := v62) h221 rfl rfl rfl (by kernel_rfl) (by kernel_rfl) (by kernel_rfl) (fun a222 h222 => ?_); clear h221
        refine pl_want h222 rfl rfl rfl (op_call (args := #[v, v62]) (R := fun res xw => ∃ ys : List ValT, ∃ u : Value, res = u ∧ xw.ownsRow w203.heap.size 88 2 u ys.length (ys.flatMap valE) ∧ SetG (fun y : ValT => y.1) (ovG l (m ++ n)) ys ∧ ys.length ≤ l.length + (m ++ n).length ∧ Below w203.heap.size w203 xw) rfl rfl rfl (by kernel_rfl) (by kernel_rfl) (Try.call12 _ _) (opsOver_any v l v62 (m ++ n) w203 (hs.below hB210) (row_sl hr214 opE_len) (by first | omega | (simp; done) | (simp; omega))) (by rintro e x ⟨ys, u, rfl, hq227, hq228, hq229, hb230⟩; exact ⟨_, rfl, ⟨ys, u, rfl, hq227, hq228, hq229, hb230⟩⟩)) ?_; clear h222
        rintro u226 w224 a223 ⟨ys225, _, rfl, hq227, hq228, hq229, hb230⟩ h223
        have hB231 := hb_call hB210 hb230
        have hz232 := hB231.size
        have hz233 := hb230.size
        have hr234 := row_kept_new hr213 (below_grown hb230)
        have hr235 := row_kept_new hr214 (below_grown hb230)
        have hr236 := row_kept_new hr215 (below_grown hb230)
        have hr237 := row_kept_new hr216 (below_grown hb230)
        have hr238 := row_kept_new hr217 (below_grown hb230)
        have hr239 := row_kept_new hr218 (below_grown hb230)
        have hr240 := row_kept_new hr219 (below_grown hb230)
        have hr241 := row_kept_new hq206 (below_grown hb230)
        have heq8 : ys204 = ys225 := (SetG.uniq hq228 hrw7).symm
        subst heq8
        have hl242 := sl_len (row_sl hq227 valE_len)
        refine pl_want h223 rfl rfl rfl (op_call (args := #[u205, u226]) (R := fun res xw => res = .bool (sameP ys204 ys204) ∧ Below w224.heap.size w224 xw) rfl rfl rfl (by kernel_rfl) (by kernel_rfl) (Try.call16 _ _) (rsamePairs_any u205 ys204 u226 ys204 w224 (row_sl hr241 valE_len) (row_sl hq227 valE_len)) (by rintro e x ⟨rfl, hb245⟩; exact ⟨_, rfl, ⟨rfl, hb245⟩⟩)) ?_; clear h223
        rintro _ w244 a243 ⟨rfl, hb245⟩ h243
        have hB246 := hb_call hB231 hb245
        have hz247 := hB246.size
        have hz248 := hb245.size
        have hr249 := row_kept_new hr234 (below_grown hb245)
        have hr250 := row_kept_new hr235 (below_grown hb245)
        have hr251 := row_kept_new hr236 (below_grown hb245)
        have hr252 := row_kept_new hr237 (below_grown hb245)
        have hr253 := row_kept_new hr238 (below_grown hb245)
        have hr254 := row_kept_new hr239 (below_grown hb245)
        have hr255 := row_kept_new hr240 (below_grown hb245)
        have hr256 := row_kept_new hr241 (below_grown hb245)
        have hr257 := row_kept_new hq227 (below_grown hb245)
        refine pl_val (v := .bool (sameP ys204 ys204)) h243 rfl rfl rfl (by kernel_rfl) (by kernel_rfl) (by kernel_rfl) (fun a258 h258 => ?_); clear h243
        refine pl_val (v := .bool (sameP ys204 ys204)) h258 rfl rfl rfl (by kernel_rfl) (by kernel_rfl) (by kernel_rfl) (fun a259 h259 => ?_); clear h258
        have hc260 : (sameP ys204 ys204) = true := sameP_refl _
        rw [hc260] at h259; clear hc260
        refine pl_want h259 rfl rfl rfl (op_call (args := #[]) (R := fun res xw => res = .bool true ∧ Below w244.heap.size w244 xw) rfl rfl rfl (by kernel_rfl) (by kernel_rfl) (Try.call11 _ _) (awake06_any  w244 ) (by rintro e x ⟨rfl, hb263⟩; exact ⟨_, rfl, ⟨rfl, hb263⟩⟩)) ?_; clear h259
        rintro _ w262 a261 ⟨rfl, hb263⟩ h261
        have hB264 := hb_call hB246 hb263
        have hz265 := hB264.size
        have hz266 := hb263.size
        have hr267 := row_kept_new hr249 (below_grown hb263)
        have hr268 := row_kept_new hr250 (below_grown hb263)
        have hr269 := row_kept_new hr251 (below_grown hb263)
        have hr270 := row_kept_new hr252 (below_grown hb263)
        have hr271 := row_kept_new hr253 (below_grown hb263)
        have hr272 := row_kept_new hr254 (below_grown hb263)
        have hr273 := row_kept_new hr255 (below_grown hb263)
        have hr274 := row_kept_new hr256 (below_grown hb263)
        have hr275 := row_kept_new hr257 (below_grown hb263)
        refine pl_val (v := .bool true) h261 rfl rfl rfl (by kernel_rfl) (by kernel_rfl) (by kernel_rfl) (fun a276 h276 => ?_); clear h261
        refine pl_val (v := .bool true) h276 rfl rfl rfl (by kernel_rfl) (by kernel_rfl) (by kernel_rfl) (fun a277 h277 => ?_); clear h276
        refine pl_nil ?_
        refine co_then ?_
        refine wp_ret ?_
        refine co_ret1 h277 rfl rfl ?_
        exact ⟨rfl, hB264⟩
      ·
        rw [hc19] at h18
        have hp278 : ((n.length : Nat) : Int) > 30 := of_decide_eq_true hc19
        clear hc19
        refine co_true h18 rfl ?_
        refine co_seq ?_
        refine co_reg ?_
        refine pl_want h18 rfl rfl rfl (op_call (args := #[]) (R := fun res xw => res = .bool true ∧ Below w.heap.size w xw) rfl rfl rfl (by kernel_rfl) (by kernel_rfl) (Try.call11 _ _) (awake06_any  w ) (by rintro e x ⟨rfl, hb281⟩; exact ⟨_, rfl, ⟨rfl, hb281⟩⟩)) ?_; clear h18
        rintro _ w280 a279 ⟨rfl, hb281⟩ h279
        have hB282 := hb_call hB0 hb281
        have hz283 := hB282.size
        have hz284 := hb281.size
        refine pl_val (v := .bool true) h279 rfl rfl rfl (by kernel_rfl) (by kernel_rfl) (by kernel_rfl) (fun a285 h285 => ?_); clear h279
        refine pl_nil ?_
        refine co_then ?_
        refine wp_ret ?_
        refine co_thenR ?_
        refine co_ret1 h285 rfl rfl ?_
        exact ⟨rfl, hB282⟩
    ·
      rw [hc13] at h12
      have hp286 : ((m.length : Nat) : Int) > 30 := of_decide_eq_true hc13
      clear hc13
      refine pl_skip h12 rfl rfl rfl (fun a287 h287 => ?_); clear h12
      refine pl_skip h287 rfl rfl rfl (fun a288 h288 => ?_); clear h287
      refine pl_skip h288 rfl rfl rfl (fun a289 h289 => ?_); clear h288
      refine pl_val (v := .bool true) h289 rfl rfl rfl (by kernel_rfl) (by kernel_rfl) (by kernel_rfl) (fun a290 h290 => ?_); clear h289
      refine pl_nil ?_
      refine co_then ?_
      refine co_true h290 rfl ?_
      refine co_seq ?_
      refine co_reg ?_
      refine pl_want h290 rfl rfl rfl (op_call (args := #[]) (R := fun res xw => res = .bool true ∧ Below w.heap.size w xw) rfl rfl rfl (by kernel_rfl) (by kernel_rfl) (Try.call11 _ _) (awake06_any  w ) (by rintro e x ⟨rfl, hb293⟩; exact ⟨_, rfl, ⟨rfl, hb293⟩⟩)) ?_; clear h290
      rintro _ w292 a291 ⟨rfl, hb293⟩ h291
      have hB294 := hb_call hB0 hb293
      have hz295 := hB294.size
      have hz296 := hb293.size
      refine pl_val (v := .bool true) h291 rfl rfl rfl (by kernel_rfl) (by kernel_rfl) (by kernel_rfl) (fun a297 h297 => ?_); clear h291
      refine pl_nil ?_
      refine co_then ?_
      refine wp_ret ?_
      refine co_thenR ?_
      refine co_ret1 h297 rfl rfl ?_
      exact ⟨rfl, hB294⟩
  ·
    rw [hc6] at h5
    have hp298 : ((l.length : Nat) : Int) > 30 := of_decide_eq_true hc6
    clear hc6
    refine pl_skip h5 rfl rfl rfl (fun a299 h299 => ?_); clear h5
    refine pl_skip h299 rfl rfl rfl (fun a300 h300 => ?_); clear h299
    refine pl_skip h300 rfl rfl rfl (fun a301 h301 => ?_); clear h300
    refine pl_val (v := .bool true) h301 rfl rfl rfl (by kernel_rfl) (by kernel_rfl) (by kernel_rfl) (fun a302 h302 => ?_); clear h301
    refine pl_val (v := .bool true) h302 rfl rfl rfl (by kernel_rfl) (by kernel_rfl) (by kernel_rfl) (fun a303 h303 => ?_); clear h302
    refine pl_skip h303 rfl rfl rfl (fun a304 h304 => ?_); clear h303
    refine pl_skip h304 rfl rfl rfl (fun a305 h305 => ?_); clear h304
    refine pl_skip h305 rfl rfl rfl (fun a306 h306 => ?_); clear h305
    refine pl_val (v := .bool true) h306 rfl rfl rfl (by kernel_rfl) (by kernel_rfl) (by kernel_rfl) (fun a307 h307 => ?_); clear h306
    refine pl_nil ?_
    refine co_then ?_
    refine co_true h307 rfl ?_
    refine co_seq ?_
    refine co_reg ?_
    refine pl_want h307 rfl rfl rfl (op_call (args := #[]) (R := fun res xw => res = .bool true ∧ Below w.heap.size w xw) rfl rfl rfl (by kernel_rfl) (by kernel_rfl) (Try.call11 _ _) (awake06_any  w ) (by rintro e x ⟨rfl, hb310⟩; exact ⟨_, rfl, ⟨rfl, hb310⟩⟩)) ?_; clear h307
    rintro _ w309 a308 ⟨rfl, hb310⟩ h308
    have hB311 := hb_call hB0 hb310
    have hz312 := hB311.size
    have hz313 := hb310.size
    refine pl_val (v := .bool true) h308 rfl rfl rfl (by kernel_rfl) (by kernel_rfl) (by kernel_rfl) (fun a314 h314 => ?_); clear h308
    refine pl_nil ?_
    refine co_then ?_
    refine wp_ret ?_
    refine co_thenR ?_
    refine co_ret1 h314 rfl rfl ?_
    exact ⟨rfl, hB311⟩

theorem elem_pair {H : Type} {enc : TypeId × Value → H} {w : World} {base : Nat} {spare : Nat → Bool} {held : Bool} (n : Nat) (cs : List Value) (x : DataW H × List MemPlace) (h : DataW.trod enc Try.prog w base spare held n 88 cs = some x) : ∃ p : ValT, cs = valE p ∧ True := by
  obtain ⟨hl, m, hf⟩ := trod_fields Try.underlying88 (by kernel_rfl) (by kernel_rfl) h
  have hl2 : cs.length = 2 := hl
  clear hl
  match cs, hl2 with
  | [c0, c1], _ =>
    obtain ⟨_, y0, e0, h0⟩ := hf 0 _ rfl
    obtain ⟨_, y1, e1, h1⟩ := hf 1 _ rfl
    cases e0; cases e1
    obtain ⟨a, e0, _⟩ := DataW.trod_string Try.underlying9 h0
    obtain ⟨b, e1, _⟩ := DataW.trod_string Try.underlying9 h1
    simp only [List.cons.injEq, and_true] at e0 e1
    subst e0 e1
    exact ⟨(a, b), rfl, trivial⟩
theorem open_pairs {H : Type} {enc : TypeId × Value → H} {w : World} {base : Nat} {spare : Nat → Bool} {held : Bool} {fuel : Nat} {cs : List Value} {x : DataW H × List MemPlace} (h : DataW.trod enc Try.prog w base spare held fuel 22 cs = some x) :
    ∃ (l : List ValT) (v : Value), cs = [v] ∧ SliceOf valE 2 w v l ∧ ∀ p ∈ l, True :=
  open_rows valE 2 (fun _ => True) Try.underlying22 (by kernel_rfl) (by omega) elem_pair h
theorem opsOver_w (v : Value) (l : List ValT) (v2 : Value) (m : List OpT) (v3 : Value) (n : List OpT) (w : World) (h1 : SliceOf valE 2 w v l) (g1 : ∀ p ∈ l, True) (h2 : SliceOf opE 3 w v2 m) (g2 : ∀ p ∈ m, True) (h3 : SliceOf opE 3 w v3 n) (g3 : ∀ p ∈ n, True) : Calls Try.prog 3 #[v, v2, v3] w fun e w' => e = .returned (.bool true) ∧ Below w.heap.size w w' := opsOver_law v l v2 m v3 n w h1 h2 h3

end Go.Proofs.Yteioaaegooebpaa
