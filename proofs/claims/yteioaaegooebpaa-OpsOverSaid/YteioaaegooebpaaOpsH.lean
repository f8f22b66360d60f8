/- Package ops: Norm. Conditions: at most 1000000 operations. -/
import Derived.Test.YteioaaegooebpaaOpsG
namespace Go.Proofs.Yteioaaegooebpaa
open Go.RowKit Go.PlainAid
set_option linter.unusedVariables false

open Go.Sort Go.Shelf Go.Lib

def lastF (g : ByteArray → Option OpT) (o : OpT) : ByteArray → Option OpT := fun b => if b = o.1 then some o else g b
/-- The last operation of each key. -/
def lastG (l : List OpT) : ByteArray → Option OpT := l.foldl lastF (fun _ => none)
theorem lastG_snoc (l : List OpT) (o : OpT) : lastG (l ++ [o]) = lastF (lastG l) o := by unfold lastG; rw [List.foldl_append]; rfl
theorem lastG_at {l : List OpT} {i : Nat} {y : OpT} (h : l[i]? = some y) : (fun b => if b = y.1 then some (y.1, y.2.1, y.2.2) else lastG (l.take i) b) = lastG (l.take (i + 1)) := by rw [takeO_at h, lastG_snoc]; rfl
theorem snoc_ind {α : Type} {C : List α → Prop} (h0 : C []) (h1 : ∀ l a, C l → C (l ++ [a])) (l : List α) : C l := by
  have : ∀ r : List α, C r.reverse := fun r => by
    induction r with
    | nil => exact h0
    | cons a r ih => rw [List.reverse_cons]; exact h1 _ _ ih
  rw [← List.reverse_reverse l]; exact this _
theorem lastG_key (l : List OpT) : ∀ k v, lastG l k = some v → v.1 = k := by
  refine snoc_ind (C := fun l => ∀ k v, lastG l k = some v → v.1 = k) (fun k v h => by cases h) (fun l o ih k v h => ?_) l
  rw [lastG_snoc] at h
  unfold lastF at h
  by_cases e : k = o.1
  · rw [if_pos e] at h; cases h; exact e.symm
  · rw [if_neg e] at h; exact ih k v h
def pairF (g : ByteArray → Option ValT) (o : ValT) : ByteArray → Option ValT := fun b => if b = o.1 then some o else g b
def pairG (l : List ValT) : ByteArray → Option ValT := l.foldl pairF (fun _ => none)
theorem pairG_snoc (l : List ValT) (o : ValT) : pairG (l ++ [o]) = pairF (pairG l) o := by unfold pairG; rw [List.foldl_append]; rfl
theorem pairG_at {l : List ValT} {i : Nat} {y : ValT} (h : l[i]? = some y) : (fun b => if b = y.1 then some (y.1, y.2) else pairG (l.take i) b) = pairG (l.take (i + 1)) := by rw [takeO_at h, pairG_snoc]; rfl
def ovF (g : ByteArray → Option ValT) (o : OpT) : ByteArray → Option ValT := fun b => if b = o.1 then (if o.2.2 = true then none else some (o.1, o.2.1)) else g b
/-- What the pairs are behind the operations. -/
def ovG (l : List ValT) (m : List OpT) : ByteArray → Option ValT := m.foldl ovF (pairG l)
theorem ovG_snoc (l : List ValT) (m : List OpT) (o : OpT) : ovG l (m ++ [o]) = ovF (ovG l m) o := by unfold ovG; rw [List.foldl_append]; rfl
theorem ovG_del {l : List ValT} {m : List OpT} {i : Nat} {y : OpT} (h : m[i]? = some y) (hd : y.2.2 = true) : (fun b => if b = y.1 then none else ovG l (m.take i) b) = ovG l (m.take (i + 1)) := by
  rw [takeO_at h, ovG_snoc]; unfold ovF; rw [if_pos hd]
theorem ovG_put {l : List ValT} {m : List OpT} {i : Nat} {y : OpT} (h : m[i]? = some y) (hd : y.2.2 = false) : (fun b => if b = y.1 then some (y.1, y.2.1) else ovG l (m.take i) b) = ovG l (m.take (i + 1)) := by
  rw [takeO_at h, ovG_snoc]; unfold ovF; rw [if_neg (by simp [hd])]
theorem pairG_key (l : List ValT) : ∀ k v, pairG l k = some v → v.1 = k := by
  refine snoc_ind (C := fun l => ∀ k v, pairG l k = some v → v.1 = k) (fun k v h => by cases h) (fun l o ih k v h => ?_) l
  rw [pairG_snoc] at h
  unfold pairF at h
  by_cases e : k = o.1
  · rw [if_pos e] at h; cases h; exact e.symm
  · rw [if_neg e] at h; exact ih k v h
theorem ovG_key (l : List ValT) (m : List OpT) : ∀ k v, ovG l m k = some v → v.1 = k := by
  refine snoc_ind (C := fun m => ∀ k v, ovG l m k = some v → v.1 = k) (pairG_key l) (fun m o ih k v h => ?_) m
  rw [ovG_snoc] at h
  unfold ovF at h
  by_cases e : k = o.1
  · rw [if_pos e] at h
    by_cases d : o.2.2 = true
    · rw [if_pos d] at h; cases h
    · rw [if_neg d] at h; cases h; exact e.symm
  · rw [if_neg e] at h; exact ih k v h
theorem take_snoc' {α : Type} {l : List α} {i : Nat} {y : α} (h : l[i]? = some y) : l.take i ++ [y] = l.take (i + 1) := (takeO_at h).symm

set_option maxRecDepth 100000 in
theorem opsNorm_any (v : Value) (l : List OpT) (w : World) (hs : SliceOf opE 3 w v l) (hlen : l.length ≤ 1000000) :
    Calls Try.prog 14 #[v] w fun e w' => ∃ (ys : List OpT) (u : Value), e = .returned (u) ∧ w'.ownsRow w.heap.size 86 3 u ys.length (ys.flatMap opE) ∧ SetG (fun y : OpT => y.1) (lastG l) ys ∧ ys.length ≤ l.length ∧ Below w.heap.size w w' := by
  have hB0 := Below.refl w.heap.size w
  have hl_hs := sl_len hs
  refine co_enter (n := 37) Try.func14 rfl rfl rfl [(0, v)] rfl (fun a h0 => ?_)
  refine co_seq ?_
  refine co_reg ?_
  refine pl_val (v := .slice none 0 0) h0 rfl rfl rfl (by kernel_rfl) (by kernel_rfl) (by kernel_rfl) (fun a1 h1 => ?_); clear h0
  refine pl_nil ?_
  refine co_then ?_
  refine co_seq ?_
  refine co_reg ?_
  refine pl_want h1 rfl rfl rfl (op_makeO strK opV (by kernel_rfl) (by kernel_rfl) rfl) ?_; clear h1
  rintro _ w3 a2 ⟨B4, rfl, hN5, hz6, hm7, hg8⟩ h2
  have hB9 := hb_new hB0 hg8
  have hz10 := hB9.size
  have hz11 := hg8.size
  have hl12 := hm7.lt
  refine pl_val (v := .map (some B4)) h2 rfl rfl rfl (by kernel_rfl) (by kernel_rfl) (by kernel_rfl) (fun a13 h13 => ?_); clear h2
  refine pl_nil ?_
  refine co_then ?_
  refine co_seq ?_
  refine co_seq ?_
  refine co_reg ?_
  refine pl_val (v := v) h13 rfl rfl rfl (by kernel_rfl) (by kernel_rfl) (by kernel_rfl) (fun a14 h14 => ?_); clear h13
  refine pl_val (v := .int .i64 ((l.length : Nat) : Int)) h14 rfl rfl rfl (by kernel_rfl) (by kernel_rfl) (rn_len rfl rfl Try.underlying23 (hs.below hB9)) (fun a15 h15 => ?_); clear h14
  refine pl_val (v := .int .i64 0) h15 rfl rfl rfl (by kernel_rfl) (by kernel_rfl) (by kernel_rfl) (fun a16 h16 => ?_); clear h15
  refine pl_nil ?_
  refine co_then ?_
  refine wp_block ?_
  have h17 : Slots 37 [(2, .slice none 0 0), (3, .map (some B4)), (10, v), (11, .int .i64 ((l.length : Nat) : Int)), (12, .int .i64 0)] _ := h16.sub ⟨rfl, rfl, rfl, rfl, rfl, trivial⟩; clear h16
  refine co_loop (fun mm a x => ∃ (i : Nat), Slots 37 [(2, .slice none 0 0), (3, .map (some B4)), (10, v), (11, .int .i64 ((l.length : Nat) : Int)), (12, .int .i64 ((i : Nat) : Int))] a ∧ mm = l.length - i ∧ (i ≤ l.length) ∧ MapO strK opV x B4 (lastG (l.take i)) (i) ∧ Below w.heap.size w x) (l.length - 0) ?_ ?_
  · exact ⟨0, h17.sub ⟨rfl, rfl, rfl, rfl, (slot_eq rfl (congrArg (Value.int .i64) (by first | rfl | omega))), trivial⟩, rfl, by omega, (hm7.eq (by first | rfl | exact lastG_at (by assumption)) (by omega)), hB9⟩
  · rintro k18 a19 w20 ⟨i, h19, rfl, hi21, hf22, hB23⟩
    have hz24 := hB23.size
    have hl25 := hf22.lt
    refine co_seq ?_
    refine co_reg ?_
    refine pl_val (v := .bool (decide (((i : Nat) : Int) < ((l.length : Nat) : Int)))) h19 rfl rfl rfl (by kernel_rfl) (by kernel_rfl) (by kernel_rfl) (fun a26 h26 => ?_); clear h19
    refine pl_nil ?_
    refine co_then ?_
    refine co_seq ?_
    cases hc27 : (decide (((i : Nat) : Int) < ((l.length : Nat) : Int)))
    ·
      rw [hc27] at h26
      have hp28 : ¬ (((i : Nat) : Int) < ((l.length : Nat) : Int)) := of_decide_eq_false hc27
      clear hc27
      refine co_false h26 rfl ?_
      refine wp_exit ?_
      refine co_thenX ?_
      refine co_thenX ?_
      refine co_blockX ?_
      refine co_then ?_
      refine co_seq ?_
      refine co_reg ?_
      refine pl_val (v := .map (some B4)) h26 rfl rfl rfl (by kernel_rfl) (by kernel_rfl) (by kernel_rfl) (fun a29 h29 => ?_); clear h26
      refine pl_want h29 rfl rfl rfl (op_lenO (ts := #[]) rfl rfl Try.underlying95 hf22 (by kernel_rfl) rfl) ?_; clear h29
      rintro _ _ a30 ⟨k32, rfl, hk33, rfl⟩ h30
      refine pl_want h30 rfl rfl rfl (op_makeOwn (base := w20.heap.size) (enc := opE) (k := k32) (by_ := 40) (z := .agg #[.string (⟨#[]⟩), .string (⟨#[]⟩), .bool false]) (size := 3) rfl rfl rfl Try.underlying23 (by kernel_rfl) (by omega) (by unfold maxLen; omega) (Nat.le_refl _)) ?_; clear h30
      rintro _ w35 a34 ⟨N36, rfl, hN37, hr38, hg39⟩ h34
      have hB40 := hb_new hB23 hg39
      have hz41 := hB40.size
      have hz42 := hg39.size
      have hM43 := hf22.kept hg39 (by simp)
      refine pl_val (v := .slice (some ⟨N36, 0, none⟩) 0 k32) h34 rfl rfl rfl (by kernel_rfl) (by kernel_rfl) (by kernel_rfl) (fun a44 h44 => ?_); clear h34
      refine pl_nil ?_
      refine co_then ?_
      refine co_seq ?_
      refine co_seq ?_
      refine co_reg ?_
      refine pl_val (v := .map (some B4)) h44 rfl rfl rfl (by kernel_rfl) (by kernel_rfl) (by kernel_rfl) (fun a45 h45 => ?_); clear h44
      refine pl_want h45 rfl rfl rfl (op_call (args := #[.map (some B4), .func (.func 53) #[] #[]]) (R := fun res xw => ∃ ys : List OpT, ∃ u : Value, res = u ∧ xw.ownsRow w35.heap.size 96 3 u ys.length (ys.flatMap opE) ∧ SetG (fun y : OpT => y.1) (lastG (l.take i)) ys ∧ ys.length ≤ i ∧ Below w35.heap.size w35 xw) rfl rfl rfl (by kernel_rfl) (by kernel_rfl) (Try.call52 _ _) (sorted_O B4 (lastG (l.take i)) i w35 hM43 (by omega) (lastG_key _)) (by rintro e x ⟨ys, u, rfl, hq50, hq51, hq52, hb53⟩; exact ⟨_, rfl, ⟨ys, u, rfl, hq50, hq51, hq52, hb53⟩⟩)) ?_; clear h45
      rintro u49 w47 a46 ⟨ys48, _, rfl, hq50, hq51, hq52, hb53⟩ h46
      have hB54 := hb_call hB40 hb53
      have hz55 := hB54.size
      have hz56 := hb53.size
      have hM57 := hM43.kept (below_grown hb53) (by simp)
      have hr58 := row_kept_new hr38 (below_grown hb53)
      have hl59 := sl_len (row_sl hq50 opE_len)
      refine pl_val (v := .int .i64 ((ys48.length : Nat) : Int)) h46 rfl rfl rfl (by kernel_rfl) (by kernel_rfl) (rn_lenOwn rfl rfl Try.underlying97 hq50) (fun a60 h60 => ?_); clear h46
      refine pl_val (v := .int .i64 0) h60 rfl rfl rfl (by kernel_rfl) (by kernel_rfl) (by kernel_rfl) (fun a61 h61 => ?_); clear h60
      refine pl_nil ?_
      refine co_then ?_
      refine wp_block ?_
      have h62 : Slots 37 [(2, .slice none 0 0), (6, .slice (some ⟨N36, 0, none⟩) 0 k32), (25, u49), (26, .int .i64 ((ys48.length : Nat) : Int)), (27, .int .i64 0)] _ := h61.sub ⟨rfl, rfl, rfl, rfl, rfl, trivial⟩; clear h61
      refine co_loop (fun mm a x => ∃ (j : Nat) (u : Value), Slots 37 [(2, .slice none 0 0), (6, u), (25, u49), (26, .int .i64 ((ys48.length : Nat) : Int)), (27, .int .i64 ((j : Nat) : Int))] a ∧ mm = ys48.length - j ∧ (j ≤ ys48.length) ∧ x.ownsRow w35.heap.size 96 3 u49 ys48.length (ys48.flatMap opE) ∧ x.ownsRow w.heap.size 86 3 u (ys48.take j).length ((ys48.take j).flatMap opE) ∧ Below w.heap.size w x) (ys48.length - 0) ?_ ?_
      · exact ⟨0, (.slice (some ⟨N36, 0, none⟩) 0 k32), h62.sub ⟨rfl, rfl, rfl, rfl, (slot_eq rfl (congrArg (Value.int .i64) (by first | rfl | omega))), trivial⟩, rfl, by omega, hq50, (row_eq (row_lows hr58 (by omega)) (by first | rfl | exact take_snoc' (by assumption))), hB54⟩
      · rintro k63 a64 w65 ⟨j, u, h64, rfl, hi66, hf67, hf68, hB69⟩
        have hz70 := hB69.size
        have hst : (ys48.take j).length ≤ j := List.length_take_le _ _
        refine co_seq ?_
        refine co_reg ?_
        refine pl_val (v := .bool (decide (((j : Nat) : Int) < ((ys48.length : Nat) : Int)))) h64 rfl rfl rfl (by kernel_rfl) (by kernel_rfl) (by kernel_rfl) (fun a71 h71 => ?_); clear h64
        refine pl_nil ?_
        refine co_then ?_
        refine co_seq ?_
        cases hc72 : (decide (((j : Nat) : Int) < ((ys48.length : Nat) : Int)))
        ·
          rw [hc72] at h71
          have hp73 : ¬ (((j : Nat) : Int) < ((ys48.length : Nat) : Int)) := of_decide_eq_false hc72
          clear hc72
          refine co_false h71 rfl ?_
          refine wp_exit ?_
          refine co_thenX ?_
          refine co_thenX ?_
          refine co_blockX ?_
          refine co_then ?_
          refine co_seq ?_
          refine co_reg ?_
          refine pl_val (v := u) h71 rfl rfl rfl (by kernel_rfl) (by kernel_rfl) (by kernel_rfl) (fun a74 h74 => ?_); clear h71
          refine pl_val (v := u) h74 rfl rfl rfl (by kernel_rfl) (by kernel_rfl) (by kernel_rfl) (fun a75 h75 => ?_); clear h74
          refine pl_nil ?_
          refine co_then ?_
          refine wp_ret ?_
          refine co_ret1 h75 rfl rfl ?_
          exact ⟨_, _, rfl, (row_eq (row_lows hf68 (by omega)) (List.take_of_length_le (by omega))), (by have := hq51; rwa [List.take_of_length_le (show l.length ≤ i by omega)] at this), by omega, hB69⟩
        ·
          rw [hc72] at h71
          have hp76 : ((j : Nat) : Int) < ((ys48.length : Nat) : Int) := of_decide_eq_true hc72
          clear hc72
          refine co_true h71 rfl ?_
          refine wp_skip ?_
          refine co_then ?_
          refine co_seq ?_
          refine wp_block ?_
          refine co_seq ?_
          refine co_reg ?_
          obtain ⟨y77, hy77⟩ : ∃ z, ys48[j]? = some z := ⟨_, List.getElem?_eq_getElem (by first | omega | (simp; done) | (simp; omega))⟩
          refine pl_val (v := .pointer (some ⟨(blkOf u49), offOf u49 + j * 3, none⟩)) h71 rfl rfl rfl (by kernel_rfl) (by kernel_rfl) (rn_index rfl rfl rfl Try.underlying97 Try.sizeOf96 (row_sl hf67 opE_len) (by omega) (by first | omega | (simp; done) | (simp; omega))) (fun a78 h78 => ?_); clear h71
          refine pl_val (v := .agg #[.string y77.1, .string y77.2.1, .bool y77.2.2]) h78 rfl rfl rfl (by kernel_rfl) (by kernel_rfl) (rn_loadN rfl rfl Try.underlying96 rfl (by kernel_rfl) (sl_at (row_sl hf67 opE_len) hy77)) (fun a79 h79 => ?_); clear h78
          refine pl_want h79 rfl rfl rfl (op_new (v := fun N => .pointer (some ⟨N, 0, none⟩)) (T := 96) (cs := #[.string (⟨#[]⟩), .string (⟨#[]⟩), .bool false]) (by kernel_rfl) (by kernel_rfl) (by kernel_rfl)) ?_; clear h79
          rintro _ w81 a80 ⟨N82, rfl, hN85, hz86, hk84, hg83⟩ h80
          have ha87 := row_fresh hf67 hN85
          have ha88 := row_fresh hf68 hN85
          have hB89 := hb_new hB69 hg83
          have hz90 := hB89.size
          have hz91 := hg83.size
          have hr92 := row_kept_new hf67 hg83
          have hr93 := row_kept_new hf68 hg83
          try dsimp only at h80
          refine pl_doW h80 rfl rfl (op_storeN rfl rfl rfl (by kernel_rfl) (by kernel_rfl) hk84 rfl) ?_; clear h80
          rintro _ w95 a94 ⟨hk96, hz97, hg98⟩ h94
          have hk96' : Blk w95 N82 96 #[.string y77.1, .string y77.2.1, .bool y77.2.2] := hk96; clear hk96
          have hB99 := hb_at hB89 hg98 (by omega)
          have hz100 := hB99.size
          have hz101 := hg98.size
          have hr102 := row_kept_at hr92 hg98 (ha87)
          have hr103 := row_kept_at hr93 hg98 (ha88)
          refine pl_nil ?_
          refine co_then ?_
          refine co_reg ?_
          refine pl_val (v := u) h94 rfl rfl rfl (by kernel_rfl) (by kernel_rfl) (by kernel_rfl) (fun a104 h104 => ?_); clear h94
          refine pl_val (v := .agg #[.string y77.1, .string y77.2.1, .bool y77.2.2]) h104 rfl rfl rfl (by kernel_rfl) (by kernel_rfl) (rn_loadN rfl rfl Try.underlying96 rfl (by kernel_rfl) hk96'.all) (fun a105 h105 => ?_); clear h104
          refine pl_want h105 rfl rfl rfl (op_new (v := fun N => .slice (some ⟨N, 0, none⟩) 1 1) (T := 86) (cs := #[.string y77.1, .string y77.2.1, .bool y77.2.2]) (by kernel_rfl) (by kernel_rfl) (by kernel_rfl)) ?_; clear h105
          rintro _ w107 a106 ⟨N108, rfl, hN111, hz112, hk110, hg109⟩ h106
          have ha113 := row_fresh hr102 hN111
          have ha114 := row_fresh hr103 hN111
          have hB115 := hb_new hB99 hg109
          have hz116 := hB115.size
          have hz117 := hg109.size
          have hr118 := row_kept_new hr102 hg109
          have hr119 := row_kept_new hr103 hg109
          have hk120 := hk96'.kept hg109 (by simp)
          try dsimp only at h106
          refine pl_want h106 rfl rfl rfl (op_append rfl w.heap.size 86 (z := .agg #[.string (⟨#[]⟩), .string (⟨#[]⟩), .bool false]) (size := 3) (bytes := 40) Try.underlying23 (by kernel_rfl) rfl rfl rfl hr119 rfl hk110 rfl (by kernel_rfl) (by first | omega | (simp only [List.length_nil, List.length_append, List.length_cons, List.length_take, List.length_drop]; omega)) (by first | omega | (simp only [List.length_nil, List.length_append, List.length_cons, List.length_take, List.length_drop]; omega)) (by omega)) ?_; clear h106
          rintro v123 w122 a121 ⟨hr124, hg125⟩ h121
          have hr124' : w122.ownsRow w.heap.size 86 3 v123 ((ys48.take j ++ [(y77.1, y77.2.1, y77.2.2)]).length) ((ys48.take j ++ [(y77.1, y77.2.1, y77.2.2)]).flatMap opE) := row_push (y := (y77.1, y77.2.1, y77.2.2)) hr124 rfl rfl; clear hr124
          have hB126 := hb_row hB115 hr119 (by omega) hg125
          have hz127 := hB126.size
          have hz128 := hg125.size
          have hr129 := row_kept_row hr118 hr119 hg125 (by decide)
          have hk130 := hk120.kept hg125 (ha88)
          have hk131 := hk110.kept hg125 (ha114)
          refine pl_val (v := v123) h121 rfl rfl rfl (by kernel_rfl) (by kernel_rfl) (by kernel_rfl) (fun a132 h132 => ?_); clear h121
          refine pl_nil ?_
          refine co_blockN ?_
          refine co_then ?_
          refine co_reg ?_
          refine pl_val (v := .int .i64 ((j + 1 : Nat) : Int)) h132 rfl rfl rfl (by kernel_rfl) (by kernel_rfl) (rn_arith' rfl rfl rfl rfl rfl rfl (IntWalk.i64_in _ (by omega)) (by omega)) (fun a133 h133 => ?_); clear h132
          refine pl_val (v := .int .i64 ((j + 1 : Nat) : Int)) h133 rfl rfl rfl (by kernel_rfl) (by kernel_rfl) (by kernel_rfl) (fun a134 h134 => ?_); clear h133
          refine pl_nil ?_
          refine co_then ?_
          refine ⟨(ys48.length - (j + 1)), by omega, ?_⟩
          exact ⟨j + 1, v123, h134.sub ⟨rfl, rfl, rfl, rfl, rfl, trivial⟩, rfl, by omega, hr129, (row_eq hr124' (by first | rfl | exact take_snoc' (by assumption))), hB126⟩
    ·
      rw [hc27] at h26
      have hp135 : ((i : Nat) : Int) < ((l.length : Nat) : Int) := of_decide_eq_true hc27
      clear hc27
      refine co_true h26 rfl ?_
      refine wp_skip ?_
      refine co_then ?_
      refine co_seq ?_
      refine wp_block ?_
      refine co_seq ?_
      refine co_reg ?_
      obtain ⟨y136, hy136⟩ : ∃ z, l[i]? = some z := ⟨_, List.getElem?_eq_getElem (by first | omega | (simp; done) | (simp; omega))⟩
      refine pl_val (v := .pointer (some ⟨(blkOf v), offOf v + i * 3, none⟩)) h26 rfl rfl rfl (by kernel_rfl) (by kernel_rfl) (rn_index rfl rfl rfl Try.underlying23 Try.sizeOf86 (hs.below hB23) (by omega) (by first | omega | (simp; done) | (simp; omega))) (fun a137 h137 => ?_); clear h26
      refine pl_val (v := .agg #[.string y136.1, .string y136.2.1, .bool y136.2.2]) h137 rfl rfl rfl (by kernel_rfl) (by kernel_rfl) (rn_loadN rfl rfl Try.underlying86 rfl (by kernel_rfl) (sl_at (hs.below hB23) hy136)) (fun a138 h138 => ?_); clear h137
      refine pl_want h138 rfl rfl rfl (op_new (v := fun N => .pointer (some ⟨N, 0, none⟩)) (T := 86) (cs := #[.string (⟨#[]⟩), .string (⟨#[]⟩), .bool false]) (by kernel_rfl) (by kernel_rfl) (by kernel_rfl)) ?_; clear h138
      rintro _ w140 a139 ⟨N141, rfl, hN144, hz145, hk143, hg142⟩ h139
      have hB146 := hb_new hB23 hg142
      have hz147 := hB146.size
      have hz148 := hg142.size
      have hM149 := hf22.kept hg142 (by simp)
      try dsimp only at h139
      refine pl_doW h139 rfl rfl (op_storeN rfl rfl rfl (by kernel_rfl) (by kernel_rfl) hk143 rfl) ?_; clear h139
      rintro _ w151 a150 ⟨hk152, hz153, hg154⟩ h150
      have hk152' : Blk w151 N141 86 #[.string y136.1, .string y136.2.1, .bool y136.2.2] := hk152; clear hk152
      have hB155 := hb_at hB146 hg154 (by omega)
      have hz156 := hB155.size
      have hz157 := hg154.size
      have hM158 := hM149.kept hg154 (by simp; omega)
      refine pl_nil ?_
      refine co_then ?_
      refine co_reg ?_
      refine pl_val (v := .map (some B4)) h150 rfl rfl rfl (by kernel_rfl) (by kernel_rfl) (by kernel_rfl) (fun a159 h159 => ?_); clear h150
      refine pl_val (v := .pointer (some ⟨N141, 0, none⟩)) h159 rfl rfl rfl (by kernel_rfl) (by kernel_rfl) (by kernel_rfl) (fun a160 h160 => ?_); clear h159
      refine pl_val (v := .string y136.1) h160 rfl rfl rfl (by kernel_rfl) (by kernel_rfl) (rn_load1 rfl rfl Try.isAgg9 (hk152'.cell rfl)) (fun a161 h161 => ?_); clear h160
      refine pl_val (v := .agg #[.string y136.1, .string y136.2.1, .bool y136.2.2]) h161 rfl rfl rfl (by kernel_rfl) (by kernel_rfl) (rn_loadN rfl rfl Try.underlying86 rfl (by kernel_rfl) hk152'.all) (fun a162 h162 => ?_); clear h161
      refine pl_doW h162 rfl rfl (op_updateO (a := y136.1) (v := (y136.1, y136.2.1, y136.2.2)) (strKL Try.underlying9) rfl rfl rfl rfl Try.underlying95 hM158) ?_; clear h162
      rintro _ w164 a163 ⟨hm165, hz166, hg167⟩ h163
      have hB168 := hb_at hB155 hg167 (by omega)
      have hz169 := hB168.size
      have hz170 := hg167.size
      have hk171 := hk152'.kept hg167 (by simp; omega)
      have hl172 := hm165.lt
      refine pl_nil ?_
      refine co_blockN ?_
      refine co_then ?_
      refine co_reg ?_
      refine pl_val (v := .int .i64 ((i + 1 : Nat) : Int)) h163 rfl rfl rfl (by kernel_rfl) (by kernel_rfl) (rn_arith' rfl rfl rfl rfl rfl rfl (IntWalk.i64_in _ (by omega)) (by omega)) (fun a173 h173 => ?_); clear h163
      refine pl_val (v := .int .i64 ((i + 1 : Nat) : Int)) h173 rfl rfl rfl (by kernel_rfl) (by kernel_rfl) (by kernel_rfl) (fun a174 h174 => ?_); clear h173
      refine pl_nil ?_
      refine co_then ?_
      refine ⟨(l.length - (i + 1)), by omega, ?_⟩
      exact ⟨i + 1, h174.sub ⟨rfl, rfl, rfl, rfl, rfl, trivial⟩, rfl, by omega, (hm165.eq (by first | rfl | exact lastG_at (by assumption)) (by omega)), hB168⟩
end Go.Proofs.Yteioaaegooebpaa
