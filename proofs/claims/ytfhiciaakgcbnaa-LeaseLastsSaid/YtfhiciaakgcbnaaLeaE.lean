/- Package lease: Free, the document's Same. Conditions: at most 1000 pins. -/
import Derived.Test.YtfhiciaakgcbnaaLeaD
namespace Go.Proofs.Ytfhiciaakgcbnaa
open Go.RowKit Go.PlainAid
set_option linter.unusedVariables false


theorem del_any (v : Value) (l : List PinT) (i base : Nat) (w : World) (hown : w.ownsRow base 46 3 v l.length (l.flatMap pinE)) (hi : i < l.length) :
    Calls Try.prog 69 #[v, .int .i64 i, .int .i64 ((i : Int) + 1)] w fun e w' => ∃ u, e = .returned u ∧ w'.ownsRow base 46 3 u (l.take i ++ l.drop (i + 1)).length ((l.take i ++ l.drop (i + 1)).flatMap pinE) ∧ w.grownBy w' v.ownBlock := by
  rcases hown.2 with ⟨_, h0⟩ | ⟨g, cap, cur, rfl, _⟩
  · omega
  · refine (del_pin g l.length (l.length - 1) cap i base l w hown rfl hi (by omega)).mono ?_
    rintro e w' ⟨rfl, h1, h2⟩
    refine ⟨_, rfl, ?_, by simpa [Value.ownBlock] using h2⟩
    have e1 : (l.take i ++ l.drop (i + 1)).length = l.length - 1 := by simp; omega
    rw [e1]; exact h1

set_option maxRecDepth 100000 in
theorem leaseFree_any (v : Value) (l : List PinT) (id : Int) (l2 : List PinT) (r : Int) (w : World) (hs : SliceOf pinE 3 w v l) (hlen : l.length ≤ 1000) (hg : freeP l id = (l2, r)) :
    Calls Try.prog 40 #[v, .int .i64 id] w fun e w' => ∃ (u : Value), e = .returned (.tuple #[u, .int .i64 r]) ∧ w'.ownsRow w.heap.size 46 3 u l2.length (l2.flatMap pinE) ∧ Below w.heap.size w w' := by
  have hfl := findP_lt l id
  have hB0 := Below.refl w.heap.size w
  have hl_hs := sl_len hs
  refine co_enter (n := 18) Try.func40 rfl rfl rfl [(0, v), (1, .int .i64 id)] rfl (fun a h0 => ?_)
  refine co_seq ?_
  refine co_reg ?_
  refine pl_val (v := .slice none 0 0) h0 rfl rfl rfl (by kernel_rfl) (by kernel_rfl) (by kernel_rfl) (fun a1 h1 => ?_); clear h0
  refine pl_val (v := .int .i64 0) h1 rfl rfl rfl (by kernel_rfl) (by kernel_rfl) (by kernel_rfl) (fun a2 h2 => ?_); clear h1
  refine pl_nil ?_
  refine co_then ?_
  refine co_seq ?_
  refine co_reg ?_
  refine pl_val (v := v) h2 rfl rfl rfl (by kernel_rfl) (by kernel_rfl) (by kernel_rfl) (fun a3 h3 => ?_); clear h2
  refine pl_val (v := .int .i64 id) h3 rfl rfl rfl (by kernel_rfl) (by kernel_rfl) (by kernel_rfl) (fun a4 h4 => ?_); clear h3
  refine pl_want h4 rfl rfl rfl (op_call (args := #[v, .int .i64 id]) (R := fun res xw => res = .int .i64 (findP l id) ∧ Below w.heap.size w xw) rfl rfl rfl (by kernel_rfl) (by kernel_rfl) (Try.call67 _ _) (place_any v l id w hs) (by rintro e x ⟨rfl, hb7⟩; exact ⟨_, rfl, ⟨rfl, hb7⟩⟩)) ?_; clear h4
  rintro _ w6 a5 ⟨rfl, hb7⟩ h5
  have hB8 := hb_call hB0 hb7
  have hz9 := hB8.size
  have hz10 := hb7.size
  refine pl_val (v := .int .i64 (findP l id)) h5 rfl rfl rfl (by kernel_rfl) (by kernel_rfl) (by kernel_rfl) (fun a11 h11 => ?_); clear h5
  refine pl_nil ?_
  refine co_then ?_
  refine co_seq ?_
  refine co_seq ?_
  refine co_reg ?_
  refine pl_val (v := .int .i64 (findP l id)) h11 rfl rfl rfl (by kernel_rfl) (by kernel_rfl) (by kernel_rfl) (fun a12 h12 => ?_); clear h11
  refine pl_val (v := .bool (decide (findP l id < 0))) h12 rfl rfl rfl (by kernel_rfl) (by kernel_rfl) (by kernel_rfl) (fun a13 h13 => ?_); clear h12
  refine pl_nil ?_
  refine co_then ?_
  cases hc14 : (decide (findP l id < 0))
  ·
    rw [hc14] at h13
    have hp15 : ¬ (findP l id < 0) := of_decide_eq_false hc14
    clear hc14
    refine co_false h13 rfl ?_
    refine wp_skip ?_
    refine co_then ?_
    refine co_seq ?_
    refine co_reg ?_
    refine pl_val (v := v) h13 rfl rfl rfl (by kernel_rfl) (by kernel_rfl) (by kernel_rfl) (fun a16 h16 => ?_); clear h13
    refine pl_want h16 rfl rfl rfl (op_call (args := #[v]) (R := fun res xw => ∃ u : Value, res = u ∧ xw.ownsRow w6.heap.size 46 3 u l.length (l.flatMap pinE) ∧ Below w6.heap.size w6 xw) rfl rfl rfl (by kernel_rfl) (by kernel_rfl) (Try.call66 _ _) (clonePin_any v l w6 (hs.below hB8) (by first | omega | (simp; done) | (simp; omega))) (by rintro e x ⟨u, rfl, hq20, hb21⟩; exact ⟨_, rfl, ⟨u, rfl, hq20, hb21⟩⟩)) ?_; clear h16
    rintro u19 w18 a17 ⟨_, rfl, hq20, hb21⟩ h17
    have hB22 := hb_call hB8 hb21
    have hz23 := hB22.size
    have hz24 := hb21.size
    have hl25 := sl_len (row_sl hq20 pinE_len)
    refine pl_val (v := .int .i64 (findP l id)) h17 rfl rfl rfl (by kernel_rfl) (by kernel_rfl) (by kernel_rfl) (fun a26 h26 => ?_); clear h17
    refine pl_val (v := .int .i64 (findP l id)) h26 rfl rfl rfl (by kernel_rfl) (by kernel_rfl) (by kernel_rfl) (fun a27 h27 => ?_); clear h26
    refine pl_val (v := .int .i64 ((findP l id) + 1)) h27 rfl rfl rfl (by kernel_rfl) (by kernel_rfl) (rn_arith rfl rfl rfl rfl rfl rfl (IntWalk.i64_in _ (by omega))) (fun a28 h28 => ?_); clear h27
    have hj0 : findP l id = (((findP l id).toNat : Nat) : Int) := by omega
    refine pl_want h28 rfl rfl rfl (op_call (args := #[u19, .int .i64 (findP l id), .int .i64 ((findP l id) + 1)]) (R := fun res xw => xw.ownsRow w6.heap.size 46 3 res (l.take (findP l id).toNat ++ l.drop ((findP l id).toNat + 1)).length ((l.take (findP l id).toNat ++ l.drop ((findP l id).toNat + 1)).flatMap pinE) ∧ w18.grownBy xw u19.ownBlock) rfl rfl rfl (by kernel_rfl) (by kernel_rfl) (Try.call69 _ _) (by have := del_any u19 l ((findP l id).toNat) (w6.heap.size) w18 hq20 (by omega); rw [← hj0] at this; exact this) (by rintro e x ⟨u, rfl, h1, h2⟩; exact ⟨_, rfl, h1, h2⟩)) ?_; clear h28
    rintro u33 w30 a29 ⟨hr31, hg32⟩ h29
    have hB34 := hb_row hB22 hq20 (by omega) hg32
    have hz35 := hB34.size
    have hz36 := hg32.size
    refine pl_val (v := u33) h29 rfl rfl rfl (by kernel_rfl) (by kernel_rfl) (by kernel_rfl) (fun a37 h37 => ?_); clear h29
    refine pl_val (v := .int .i64 0) h37 rfl rfl rfl (by kernel_rfl) (by kernel_rfl) (by kernel_rfl) (fun a38 h38 => ?_); clear h37
    refine pl_nil ?_
    refine co_then ?_
    refine wp_ret ?_
    refine co_ret2 h38 rfl rfl rfl ?_
    cases hg.symm.trans (free_ok (by omega) rfl)
    exact ⟨_, rfl, (row_low hr31 (by omega)), hB34⟩
  ·
    rw [hc14] at h13
    have hp39 : findP l id < 0 := of_decide_eq_true hc14
    clear hc14
    refine co_true h13 rfl ?_
    refine co_seq ?_
    refine co_reg ?_
    refine pl_val (v := .slice none 0 0) h13 rfl rfl rfl (by kernel_rfl) (by kernel_rfl) (by kernel_rfl) (fun a40 h40 => ?_); clear h13
    refine pl_val (v := .int .i64 7) h40 rfl rfl rfl (by kernel_rfl) (by kernel_rfl) (by kernel_rfl) (fun a41 h41 => ?_); clear h40
    refine pl_nil ?_
    refine co_then ?_
    refine wp_ret ?_
    refine co_thenR ?_
    refine co_ret2 h41 rfl rfl rfl ?_
    cases hg.symm.trans (free_no (by omega))
    exact ⟨_, rfl, (row_nilL _ _ _ _ _), hB8⟩
set_option maxRecDepth 100000 in
theorem rleaseFree_any (v : Value) (l : List PinT) (id : Int) (l2 : List PinT) (r : Int) (w : World) (hs : SliceOf pinE 3 w v l) (hlen : l.length ≤ 1000) (hg : freeP l id = (l2, r)) :
    Calls Try.prog 41 #[v, .int .i64 id] w fun e w' => ∃ (u : Value), e = .returned (.tuple #[u, .int .i64 r]) ∧ w'.ownsRow w.heap.size 46 3 u l2.length (l2.flatMap pinE) ∧ Below w.heap.size w w' := by
  have hfl := findP_lt l id
  have hB0 := Below.refl w.heap.size w
  have hl_hs := sl_len hs
  refine co_enter (n := 22) Try.func41 rfl rfl rfl [(0, v), (1, .int .i64 id)] rfl (fun a h0 => ?_)
  refine co_seq ?_
  refine co_reg ?_
  refine pl_val (v := .slice none 0 0) h0 rfl rfl rfl (by kernel_rfl) (by kernel_rfl) (by kernel_rfl) (fun a1 h1 => ?_); clear h0
  refine pl_val (v := .int .i64 0) h1 rfl rfl rfl (by kernel_rfl) (by kernel_rfl) (by kernel_rfl) (fun a2 h2 => ?_); clear h1
  refine pl_nil ?_
  refine co_then ?_
  refine co_seq ?_
  refine co_reg ?_
  refine pl_val (v := v) h2 rfl rfl rfl (by kernel_rfl) (by kernel_rfl) (by kernel_rfl) (fun a3 h3 => ?_); clear h2
  refine pl_val (v := .int .i64 id) h3 rfl rfl rfl (by kernel_rfl) (by kernel_rfl) (by kernel_rfl) (fun a4 h4 => ?_); clear h3
  refine pl_want h4 rfl rfl rfl (op_call (args := #[v, .int .i64 id]) (R := fun res xw => res = .int .i64 (findP l id) ∧ Below w.heap.size w xw) rfl rfl rfl (by kernel_rfl) (by kernel_rfl) (Try.call68 _ _) (rfind_any v l id w hs) (by rintro e x ⟨rfl, hb7⟩; exact ⟨_, rfl, ⟨rfl, hb7⟩⟩)) ?_; clear h4
  rintro _ w6 a5 ⟨rfl, hb7⟩ h5
  have hB8 := hb_call hB0 hb7
  have hz9 := hB8.size
  have hz10 := hb7.size
  refine pl_val (v := .int .i64 (findP l id)) h5 rfl rfl rfl (by kernel_rfl) (by kernel_rfl) (by kernel_rfl) (fun a11 h11 => ?_); clear h5
  refine pl_nil ?_
  refine co_then ?_
  refine co_seq ?_
  refine co_seq ?_
  refine co_reg ?_
  refine pl_val (v := .int .i64 (findP l id)) h11 rfl rfl rfl (by kernel_rfl) (by kernel_rfl) (by kernel_rfl) (fun a12 h12 => ?_); clear h11
  refine pl_val (v := .bool (decide (findP l id < 0))) h12 rfl rfl rfl (by kernel_rfl) (by kernel_rfl) (by kernel_rfl) (fun a13 h13 => ?_); clear h12
  refine pl_nil ?_
  refine co_then ?_
  cases hc14 : (decide (findP l id < 0))
  ·
    rw [hc14] at h13
    have hp15 : ¬ (findP l id < 0) := of_decide_eq_false hc14
    clear hc14
    refine co_false h13 rfl ?_
    refine wp_skip ?_
    refine co_then ?_
    refine co_seq ?_
    refine dr_gen (fun x => Below w.heap.size w x) (by kernel_rfl) (fun w16 hg17 => ?_) (fun w16 hg17 => ?_)
    ·
      have hB18 := hb_new hB8 hg17
      have hz19 := hB18.size
      have hz20 := hg17.size
      exact hB18
    have hB21 := hb_new hB8 hg17
    have hz22 := hB21.size
    have hz23 := hg17.size
    refine dr_take (i := 1) (v := v) h13 rfl (by kernel_rfl) (by kernel_rfl) (by kernel_rfl) rfl rfl rfl hB21 (by kernel_rfl) (fun _ _ => by kernel_rfl) (fun a24 h24 => ?_); clear h13
    refine dr_take (i := 2) (v := .int .i64 (findP l id)) h24 rfl (by kernel_rfl) (by kernel_rfl) (by kernel_rfl) rfl rfl rfl hB21 (by kernel_rfl) (fun _ _ => by kernel_rfl) (fun a25 h25 => ?_); clear h24
    refine dr_take (i := 3) (v := subV v 0 ((findP l id).toNat) 3) h25 rfl (by kernel_rfl) (by kernel_rfl) (by kernel_rfl) rfl rfl rfl hB21 (by kernel_rfl) (fun x hx => (rn_sliceTo rfl rfl rfl Try.underlying77 Try.sizeOf46 (hs.below hx) (by omega) (by omega))) (fun a26 h26 => ?_); clear h25
    refine dr_take (i := 5) (v := v) h26 rfl (by kernel_rfl) (by kernel_rfl) (by kernel_rfl) rfl rfl rfl hB21 (by kernel_rfl) (fun _ _ => by kernel_rfl) (fun a27 h27 => ?_); clear h26
    refine dr_take (i := 6) (v := .int .i64 (findP l id)) h27 rfl (by kernel_rfl) (by kernel_rfl) (by kernel_rfl) rfl rfl rfl hB21 (by kernel_rfl) (fun _ _ => by kernel_rfl) (fun a28 h28 => ?_); clear h27
    refine dr_take (i := 7) (v := .int .i64 ((findP l id) + 1)) h28 rfl (by kernel_rfl) (by kernel_rfl) (by kernel_rfl) rfl rfl rfl hB21 (by kernel_rfl) (fun x hx => (rn_arith rfl rfl rfl rfl rfl rfl (IntWalk.i64_in _ (by omega)))) (fun a29 h29 => ?_); clear h28
    refine dr_take (i := 8) (v := subV v ((findP l id).toNat + 1) l.length 3) h29 rfl (by kernel_rfl) (by kernel_rfl) (by kernel_rfl) rfl rfl rfl hB21 (by kernel_rfl) (fun x hx => (rn_sliceFrom rfl rfl rfl Try.underlying77 Try.sizeOf46 (hs.below hx) (by omega) (by omega))) (fun a30 h30 => ?_); clear h29
    refine dr_one (i := 0) h30 rfl (by kernel_rfl) rfl rfl rfl (op_new (v := fun N => .slice (some ⟨N, 0, none⟩) 0 0) (T := 46) (cs := #[]) (by kernel_rfl) (by kernel_rfl) (by kernel_rfl)) ?_ ?_; clear h30
    ·
      rintro _ w32 ⟨N33, rfl, hN36, hz37, hk35, hg34⟩
      have hB38 := hb_new hB21 hg34
      have hz39 := hB38.size
      have hz40 := hg34.size
      exact hB38
    rintro _ w32 a31 ⟨N33, rfl, hN36, hz37, hk35, hg34⟩ h31
    have hB38 := hb_new hB21 hg34
    have hz39 := hB38.size
    have hz40 := hg34.size
    try dsimp only at h31
    have hr43 := row_of_blkL hk35 (Nat.le_refl _) 3 pinE
    refine dr_one (i := 4) h31 rfl (by kernel_rfl) rfl rfl rfl (op_appendSrc rfl N33 46 (z := .agg #[.int .i64 0, .int .u64 0, .int .i64 0]) (size := 3) (bytes := 24) Try.underlying77 (by kernel_rfl) rfl rfl rfl hr43 rfl (sl_take (hs.below hB38) _ (by omega)) (fun y _ => ⟨pinE_len y, pinE_one y⟩) (by first | omega | (simp only [List.length_nil, List.length_append, List.length_cons, List.length_take, List.length_drop]; omega)) (by first | omega | (simp only [List.length_nil, List.length_append, List.length_cons, List.length_take, List.length_drop]; omega)) (by omega)) ?_ ?_; clear h31
    ·
      rintro v44 w42 ⟨hr45, hg46⟩
      have hr45' : w42.ownsRow N33 46 3 v44 ((l.take ((findP l id).toNat)).length) ((l.take ((findP l id).toNat)).flatMap pinE) := row_app (l := []) hr45; clear hr45
      have hB47 := hb_row hB38 hr43 (by omega) hg46
      have hz48 := hB47.size
      have hz49 := hg46.size
      exact hB47
    rintro v44 w42 a41 ⟨hr45, hg46⟩ h41
    have hr45' : w42.ownsRow N33 46 3 v44 ((l.take ((findP l id).toNat)).length) ((l.take ((findP l id).toNat)).flatMap pinE) := row_app (l := []) hr45; clear hr45
    have hB47 := hb_row hB38 hr43 (by omega) hg46
    have hz48 := hB47.size
    have hz49 := hg46.size
    refine dr_one (i := 9) h41 rfl (by kernel_rfl) rfl rfl rfl (op_appendSrc rfl N33 46 (z := .agg #[.int .i64 0, .int .u64 0, .int .i64 0]) (size := 3) (bytes := 24) Try.underlying77 (by kernel_rfl) rfl rfl rfl hr45' rfl (sl_drop (hs.below hB47) _ (by omega)) (fun y _ => ⟨pinE_len y, pinE_one y⟩) (by first | omega | (simp only [List.length_nil, List.length_append, List.length_cons, List.length_take, List.length_drop]; omega)) (by first | omega | (simp only [List.length_nil, List.length_append, List.length_cons, List.length_take, List.length_drop]; omega)) (by omega)) ?_ ?_; clear h41
    ·
      rintro v52 w51 ⟨hr53, hg54⟩
      have hr53' : w51.ownsRow N33 46 3 v52 ((l.take ((findP l id).toNat) ++ (l.drop ((findP l id).toNat + 1))).length) ((l.take ((findP l id).toNat) ++ (l.drop ((findP l id).toNat + 1))).flatMap pinE) := row_app hr53; clear hr53
      have hB55 := hb_row hB47 hr45' (by omega) hg54
      have hz56 := hB55.size
      have hz57 := hg54.size
      exact hB55
    rintro v52 w51 a50 ⟨hr53, hg54⟩ h50
    have hr53' : w51.ownsRow N33 46 3 v52 ((l.take ((findP l id).toNat) ++ (l.drop ((findP l id).toNat + 1))).length) ((l.take ((findP l id).toNat) ++ (l.drop ((findP l id).toNat + 1))).flatMap pinE) := row_app hr53; clear hr53
    have hB55 := hb_row hB47 hr45' (by omega) hg54
    have hz56 := hB55.size
    have hz57 := hg54.size
    refine dr_take (i := 10) (v := v52) h50 rfl (by kernel_rfl) (by kernel_rfl) (by kernel_rfl) rfl rfl rfl hB55 (by kernel_rfl) (fun _ _ => by kernel_rfl) (fun a58 h58 => ?_); clear h50
    refine dr_take (i := 11) (v := .int .i64 0) h58 rfl (by kernel_rfl) (by kernel_rfl) (by kernel_rfl) rfl rfl rfl hB55 (by kernel_rfl) (fun _ _ => by kernel_rfl) (fun a59 h59 => ?_); clear h58
    refine dr_done (by kernel_rfl) ?_
    refine co_then ?_
    refine wp_ret ?_
    refine co_ret2 h59 rfl rfl rfl ?_
    cases hg.symm.trans (free_ok (by omega) rfl)
    exact ⟨_, rfl, (row_low hr53' (by omega)), hB55⟩
  ·
    rw [hc14] at h13
    have hp60 : findP l id < 0 := of_decide_eq_true hc14
    clear hc14
    refine co_true h13 rfl ?_
    refine co_seq ?_
    refine co_reg ?_
    refine pl_val (v := .slice none 0 0) h13 rfl rfl rfl (by kernel_rfl) (by kernel_rfl) (by kernel_rfl) (fun a61 h61 => ?_); clear h13
    refine pl_val (v := .int .i64 7) h61 rfl rfl rfl (by kernel_rfl) (by kernel_rfl) (by kernel_rfl) (fun a62 h62 => ?_); clear h61
    refine pl_nil ?_
    refine co_then ?_
    refine wp_ret ?_
    refine co_thenR ?_
    refine co_ret2 h62 rfl rfl rfl ?_
    cases hg.symm.trans (free_no (by omega))
    exact ⟨_, rfl, (row_nilL _ _ _ _ _), hB8⟩
set_option maxRecDepth 100000 in
theorem samePins_any (v : Value) (u : Value) (l : List PinT) (w : World) (hs : SliceOf pinE 3 w v l) (hs2 : SliceOf pinE 3 w u l) :
    Calls Try.prog 46 #[v, u] w fun e w' => e = .returned (.bool true) ∧ Below w.heap.size w w' := by
  have hB0 := Below.refl w.heap.size w
  have hl_hs := sl_len hs
  have hl_hs2 := sl_len hs2
  refine co_enter (n := 32) Try.func46 rfl rfl rfl [(0, v), (1, u)] rfl (fun a h0 => ?_)
  refine co_seq ?_
  refine co_reg ?_
  refine pl_val (v := .bool false) h0 rfl rfl rfl (by kernel_rfl) (by kernel_rfl) (by kernel_rfl) (fun a1 h1 => ?_); clear h0
  refine pl_nil ?_
  refine co_then ?_
  refine co_seq ?_
  refine co_seq ?_
  refine co_reg ?_
  refine pl_val (v := v) h1 rfl rfl rfl (by kernel_rfl) (by kernel_rfl) (by kernel_rfl) (fun a2 h2 => ?_); clear h1
  refine pl_val (v := .int .i64 ((l.length : Nat) : Int)) h2 rfl rfl rfl (by kernel_rfl) (by kernel_rfl) (rn_len rfl rfl Try.underlying77 hs) (fun a3 h3 => ?_); clear h2
  refine pl_val (v := u) h3 rfl rfl rfl (by kernel_rfl) (by kernel_rfl) (by kernel_rfl) (fun a4 h4 => ?_); clear h3
  refine pl_val (v := .int .i64 ((l.length : Nat) : Int)) h4 rfl rfl rfl (by kernel_rfl) (by kernel_rfl) (rn_len rfl rfl Try.underlying77 hs2) (fun a5 h5 => ?_); clear h4
  refine pl_val (v := .bool (((l.length : Nat) : Int) != ((l.length : Nat) : Int))) h5 rfl rfl rfl (by kernel_rfl) (by kernel_rfl) (by kernel_rfl) (fun a6 h6 => ?_); clear h5
  refine pl_nil ?_
  refine co_then ?_
  have hc7 : (((l.length : Nat) : Int) != ((l.length : Nat) : Int)) = false := by first | (simp; done) | (simp; omega)
  rw [hc7] at h6; clear hc7
  refine co_false h6 rfl ?_
  refine wp_skip ?_
  refine co_then ?_
  refine co_seq ?_
  refine co_seq ?_
  refine co_reg ?_
  refine pl_val (v := .int .i64 0) h6 rfl rfl rfl (by kernel_rfl) (by kernel_rfl) (by kernel_rfl) (fun a8 h8 => ?_); clear h6
  refine pl_nil ?_
  refine co_then ?_
  refine wp_block ?_
  have h9 : Slots 32 [(0, v), (1, u), (4, .bool false), (5, .int .i64 0)] _ := h8.sub ⟨rfl, rfl, rfl, rfl, trivial⟩; clear h8
  refine co_loop (fun mm a x => ∃ (i : Nat), Slots 32 [(0, v), (1, u), (4, .bool false), (5, .int .i64 ((i : Nat) : Int))] a ∧ mm = l.length - i ∧ (i ≤ l.length) ∧ Below w.heap.size w x) (l.length - 0) ?_ ?_
  · exact ⟨0, h9.sub ⟨rfl, rfl, rfl, (slot_eq rfl (congrArg (Value.int .i64) (by first | rfl | omega))), trivial⟩, rfl, by omega, hB0⟩
  · rintro k10 a11 w12 ⟨i, h11, rfl, hi13, hB14⟩
    have hz15 := hB14.size
    refine co_seq ?_
    refine co_seq ?_
    refine co_reg ?_
    refine pl_val (v := .int .i64 ((i : Nat) : Int)) h11 rfl rfl rfl (by kernel_rfl) (by kernel_rfl) (by kernel_rfl) (fun a16 h16 => ?_); clear h11
    refine pl_val (v := v) h16 rfl rfl rfl (by kernel_rfl) (by kernel_rfl) (by kernel_rfl) (fun a17 h17 => ?_); clear h16
    refine pl_val (v := .int .i64 ((l.length : Nat) : Int)) h17 rfl rfl rfl (by kernel_rfl) (by kernel_rfl) (rn_len rfl rfl Try.underlying77 (hs.below hB14)) (fun a18 h18 => ?_); clear h17
    refine pl_val (v := .bool (decide (((i : Nat) : Int) < ((l.length : Nat) : Int)))) h18 rfl rfl rfl (by kernel_rfl) (by kernel_rfl) (by kernel_rfl) (fun a19 h19 => ?_); clear h18
    refine pl_val (v := .bool (decide (((i : Nat) : Int) < ((l.length : Nat) : Int)))) h19 rfl rfl rfl (by kernel_rfl) (by kernel_rfl) (by kernel_rfl) (fun a20 h20 => ?_); clear h19
    cases hc21 : (decide (((i : Nat) : Int) < ((l.length : Nat) : Int)))
    ·
      rw [hc21] at h20
      have hp22 : ¬ (((i : Nat) : Int) < ((l.length : Nat) : Int)) := of_decide_eq_false hc21
      clear hc21
      refine pl_skip h20 rfl rfl rfl (fun a23 h23 => ?_); clear h20
      refine pl_skip h23 rfl rfl rfl (fun a24 h24 => ?_); clear h23
      refine pl_skip h24 rfl rfl rfl (fun a25 h25 => ?_); clear h24
      refine pl_skip h25 rfl rfl rfl (fun a26 h26 => ?_); clear h25
      refine pl_val (v := .bool false) h26 rfl rfl rfl (by kernel_rfl) (by kernel_rfl) (by kernel_rfl) (fun a27 h27 => ?_); clear h26
      refine pl_nil ?_
      refine co_then ?_
      refine co_false h27 rfl ?_
      refine wp_exit ?_
      refine co_thenX ?_
      refine co_thenX ?_
      refine co_blockX ?_
      refine co_then ?_
      refine co_seq ?_
      refine co_reg ?_
      refine pl_val (v := .bool true) h27 rfl rfl rfl (by kernel_rfl) (by kernel_rfl) (by kernel_rfl) (fun a28 h28 => ?_); clear h27
      refine pl_nil ?_
      refine co_then ?_
      refine wp_ret ?_
      refine co_ret1 h28 rfl rfl ?_
      exact ⟨rfl, hB14⟩
    ·
      rw [hc21] at h20
      have hp29 : ((i : Nat) : Int) < ((l.length : Nat) : Int) := of_decide_eq_true hc21
      clear hc21
      refine pl_val (v := .int .i64 ((i : Nat) : Int)) h20 rfl rfl rfl (by kernel_rfl) (by kernel_rfl) (by kernel_rfl) (fun a30 h30 => ?_); clear h20
      refine pl_val (v := u) h30 rfl rfl rfl (by kernel_rfl) (by kernel_rfl) (by kernel_rfl) (fun a31 h31 => ?_); clear h30
      refine pl_val (v := .int .i64 ((l.length : Nat) : Int)) h31 rfl rfl rfl (by kernel_rfl) (by kernel_rfl) (rn_len rfl rfl Try.underlying77 (hs2.below hB14)) (fun a32 h32 => ?_); clear h31
      refine pl_val (v := .bool (decide (((i : Nat) : Int) < ((l.length : Nat) : Int)))) h32 rfl rfl rfl (by kernel_rfl) (by kernel_rfl) (by kernel_rfl) (fun a33 h33 => ?_); clear h32
      refine pl_val (v := .bool (decide (((i : Nat) : Int) < ((l.length : Nat) : Int)))) h33 rfl rfl rfl (by kernel_rfl) (by kernel_rfl) (by kernel_rfl) (fun a34 h34 => ?_); clear h33
      refine pl_nil ?_
      refine co_then ?_
      have hc35 : (decide (((i : Nat) : Int) < ((l.length : Nat) : Int))) = true := decide_eq_true (by omega)
      rw [hc35] at h34; clear hc35
      refine co_true h34 rfl ?_
      refine wp_skip ?_
      refine co_then ?_
      refine co_seq ?_
      refine wp_block ?_
      refine co_seq ?_
      refine dr_eq (by kernel_rfl) (fun w36 hg37 => ?_)
      have hB38 := hb_new hB14 hg37
      have hz39 := hB38.size
      have hz40 := hg37.size
      refine dr_take (i := 0) (v := v) h34 rfl (by kernel_rfl) (by kernel_rfl) (by kernel_rfl) rfl rfl rfl rfl (by kernel_rfl) (fun _ _ => by kernel_rfl) (fun a41 h41 => ?_); clear h34
      refine dr_take (i := 1) (v := .int .i64 ((i : Nat) : Int)) h41 rfl (by kernel_rfl) (by kernel_rfl) (by kernel_rfl) rfl rfl rfl rfl (by kernel_rfl) (fun _ _ => by kernel_rfl) (fun a42 h42 => ?_); clear h41
      obtain ⟨y43, hy43⟩ : ∃ z, l[i]? = some z := ⟨_, List.getElem?_eq_getElem (by first | omega | (simp; done) | (simp; omega))⟩
      refine dr_take (i := 2) (v := .pointer (some ⟨(blkOf v), offOf v + i * 3, none⟩)) h42 rfl (by kernel_rfl) (by kernel_rfl) (by kernel_rfl) rfl rfl rfl rfl (by kernel_rfl) (fun x hx => by subst hx; exact (rn_index rfl rfl rfl Try.underlying77 Try.sizeOf46 (hs.below hB38) (by omega) (by first | omega | (simp; done) | (simp; omega)))) (fun a44 h44 => ?_); clear h42
      refine dr_take (i := 3) (v := .agg #[.int .i64 y43.1, .int .u64 y43.2.1, .int .i64 y43.2.2]) h44 rfl (by kernel_rfl) (by kernel_rfl) (by kernel_rfl) rfl rfl rfl rfl (by kernel_rfl) (fun x hx => by subst hx; exact (rn_loadN rfl rfl Try.underlying46 rfl (by kernel_rfl) (sl_at (hs.below hB38) hy43))) (fun a45 h45 => ?_); clear h44
      refine dr_take (i := 4) (v := u) h45 rfl (by kernel_rfl) (by kernel_rfl) (by kernel_rfl) rfl rfl rfl rfl (by kernel_rfl) (fun _ _ => by kernel_rfl) (fun a46 h46 => ?_); clear h45
      refine dr_take (i := 5) (v := .int .i64 ((i : Nat) : Int)) h46 rfl (by kernel_rfl) (by kernel_rfl) (by kernel_rfl) rfl rfl rfl rfl (by kernel_rfl) (fun _ _ => by kernel_rfl) (fun a47 h47 => ?_); clear h46
      refine dr_take (i := 6) (v := .pointer (some ⟨(blkOf u), offOf u + i * 3, none⟩)) h47 rfl (by kernel_rfl) (by kernel_rfl) (by kernel_rfl) rfl rfl rfl rfl (by kernel_rfl) (fun x hx => by subst hx; exact (rn_index rfl rfl rfl Try.underlying77 Try.sizeOf46 (hs2.below hB38) (by omega) (by first | omega | (simp; done) | (simp; omega)))) (fun a48 h48 => ?_); clear h47
      refine dr_take (i := 7) (v := .agg #[.int .i64 y43.1, .int .u64 y43.2.1, .int .i64 y43.2.2]) h48 rfl (by kernel_rfl) (by kernel_rfl) (by kernel_rfl) rfl rfl rfl rfl (by kernel_rfl) (fun x hx => by subst hx; exact (rn_loadN rfl rfl Try.underlying46 rfl (by kernel_rfl) (sl_at (hs2.below hB38) hy43))) (fun a49 h49 => ?_); clear h48
      refine dr_take (i := 8) (v := .bool (!(y43.1 == y43.1 && y43.2.1 == y43.2.1 && y43.2.2 == y43.2.2))) h49 rfl (by kernel_rfl) (by kernel_rfl) (by kernel_rfl) rfl rfl rfl rfl (by kernel_rfl) (fun x hx => by subst hx; exact (rn_neS rfl rfl rfl Try.eqGuardType46 (eq_pin _ _ _ _ _ _ _))) (fun a50 h50 => ?_); clear h49
      refine dr_done (by kernel_rfl) ?_
      refine co_then ?_
      have hc51 : (!(y43.1 == y43.1 && y43.2.1 == y43.2.1 && y43.2.2 == y43.2.2)) = false := by simp
      rw [hc51] at h50; clear hc51
      refine co_false h50 rfl ?_
      refine wp_skip ?_
      refine co_blockN ?_
      refine co_then ?_
      refine co_reg ?_
      refine pl_val (v := .int .i64 ((i : Nat) : Int)) h50 rfl rfl rfl (by kernel_rfl) (by kernel_rfl) (by kernel_rfl) (fun a52 h52 => ?_); clear h50
      refine pl_val (v := .int .i64 ((i + 1 : Nat) : Int)) h52 rfl rfl rfl (by kernel_rfl) (by kernel_rfl) (rn_arith' rfl rfl rfl rfl rfl rfl (IntWalk.i64_in _ (by omega)) (by omega)) (fun a53 h53 => ?_); clear h52
      refine pl_val (v := .int .i64 ((i + 1 : Nat) : Int)) h53 rfl rfl rfl (by kernel_rfl) (by kernel_rfl) (by kernel_rfl) (fun a54 h54 => ?_); clear h53
      refine pl_nil ?_
      refine co_then ?_
      refine ⟨(l.length - (i + 1)), by omega, ?_⟩
      exact ⟨i + 1, h54.sub ⟨rfl, rfl, rfl, rfl, trivial⟩, rfl, by omega, hB38⟩
end Go.Proofs.Ytfhiciaakgcbnaa
