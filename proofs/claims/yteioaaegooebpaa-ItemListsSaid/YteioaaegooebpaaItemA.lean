/- Package item: Check, Put, Same, Twins, Of of both. Conditions: none. -/
import Derived.Test.YteioaaegooebpaaOpsC
import Derived.Test.YteioaaegooebpaaObjB
import Derived.Test.YteioaaegooebpaaMapC
namespace Go.Proofs.Yteioaaegooebpaa
open Go.RowKit Go.PlainAid
set_option linter.unusedVariables false


theorem putB_small {c r : Int} {l : List OpT} : (putB c r l).size ≤ 200 := by
  by_cases h : chkB c r l = 0
  · obtain ⟨_, _, hl, _⟩ := chkB_ok h
    have hok := chkB_all h
    rw [putB_ok h]
    show (putH c r l ++ putOs l).length ≤ _
    have h1 := putL_le c; have h2 := putL_le r; have h3 := putL_le ((l.length : Nat) : Int)
    have h4 : ∀ l : List OpT, (∀ z ∈ l, OpOk z) → (putOs l).length ≤ 40 * l.length := fun l => by
      induction l with
      | nil => intro _; simp [putOs]
      | cons z r ih =>
        intro hz
        have := ih (fun y hy => hz y (List.mem_cons_of_mem _ hy))
        obtain ⟨⟨_, k1⟩, k2, _⟩ := hz z (by simp)
        have k3 := putL_le (z.1.size : Int); have k4 := putL_le (z.2.1.size : Int)
        have e : putOs (z :: r) = putO1 z ++ putOs r := by simp [putOs]
        rw [e, List.length_append, List.length_cons]
        have : (putO1 z).length ≤ 40 := by unfold putO1; simp only [List.length_append, List.length_singleton, Array.length_toList, ByteArray.size_data]; omega
        omega
    have h5 := h4 l hok
    unfold putH; simp only [List.length_append]; omega
  · rw [putB_err h]; decide
/-- The bytes of an entry; what is read. -/
def putEL (c r : Int) (l : List OpT) (ts : Int) : List UInt8 := putL ts ++ (putL ((putB c r l).size : Int) ++ (putB c r l).data.toList)
def putE (c r : Int) (l : List OpT) (ts : Int) : ByteArray := if chkB c r l = 0 then ⟨(putEL c r l ts).toArray⟩ else ⟨#[]⟩
theorem putE_ok {c r ts : Int} {l : List OpT} (h : chkB c r l = 0) : putE c r l ts = ⟨(putEL c r l ts).toArray⟩ := by unfold putE; rw [if_pos h]
theorem putE_err {c r ts : Int} {l : List OpT} (h : chkB c r l ≠ 0) : putE c r l ts = ⟨#[]⟩ := by unfold putE; rw [if_neg h]
theorem putE_small {c r ts : Int} {l : List OpT} : (putE c r l ts).size ≤ 220 := by
  by_cases h : chkB c r l = 0
  · rw [putE_ok h]
    show (putEL c r l ts).length ≤ _
    have h1 := putL_le ts; have h2 := putL_le ((putB c r l).size : Int); have h3 := putB_small (c := c) (r := r) (l := l)
    unfold putEL; simp only [List.length_append, Array.length_toList, ByteArray.size_data]; omega
  · rw [putE_err h]; decide
def ofEndE (n : Int) (t : ByteArray) (x : Int) : (Int × Int × List OpT × Int) × Int :=
  if x ≠ 0 then ((0, 0, [], 0), x) else if (ofB t).2 ≠ 0 then ((0, 0, [], 0), (ofB t).2) else (((ofB t).1.1, (ofB t).1.2.1, (ofB t).1.2.2, n), 0)
def ofE (s : ByteArray) : (Int × Int × List OpT × Int) × Int :=
  let t := bigR s 0 0
  let u := textR s t.2.1 t.2.2 65536
  ofEndE t.1 u.1 (endV s u.2.1.toNat u.2.2)
theorem ofE_at {s t : ByteArray} {n a1 e1 a2 e2 x : Int} (h1 : bigR s 0 0 = (n, a1, e1)) (h2 : textR s a1 e1 65536 = (t, a2, e2)) (h3 : endV s a2.toNat e2 = x) : ofE s = ofEndE n t x := by simp only [ofE, h1, h2, h3]
theorem ofEndE_a {n x : Int} {t : ByteArray} (h : x ≠ 0) : ofEndE n t x = ((0, 0, [], 0), x) := by unfold ofEndE; rw [if_pos h]
theorem ofEndE_b {n x : Int} {t : ByteArray} (h : ¬ x ≠ 0) (h1 : (ofB t).2 ≠ 0) : ofEndE n t x = ((0, 0, [], 0), (ofB t).2) := by unfold ofEndE; rw [if_neg h, if_pos h1]
theorem ofEndE_c {n x : Int} {t : ByteArray} (h : ¬ x ≠ 0) (h1 : ¬ (ofB t).2 ≠ 0) : ofEndE n t x = (((ofB t).1.1, (ofB t).1.2.1, (ofB t).1.2.2, n), 0) := by unfold ofEndE; rw [if_neg h, if_neg h1]
def sameE (c r : Int) (l : List OpT) (ts c2 r2 : Int) (l2 : List OpT) (ts2 : Int) : Bool := if ts = ts2 then sameB c r l c2 r2 l2 else false
theorem sameE_y {c r c2 r2 ts ts2 : Int} {l l2 : List OpT} (h : ts = ts2) : sameB c r l c2 r2 l2 = sameE c r l ts c2 r2 l2 ts2 := by unfold sameE; rw [if_pos h]
theorem sameE_n {c r c2 r2 ts ts2 : Int} {l l2 : List OpT} (h : ¬ ts = ts2) : false = sameE c r l ts c2 r2 l2 ts2 := by unfold sameE; rw [if_neg h]
theorem sameE_refl (c r : Int) (l : List OpT) (ts : Int) : sameE c r l ts c r l ts = true := by rw [← sameE_y rfl, sameB_refl]
theorem eq_arr2 (a b c d : Int) (w : World) : (binOp .eql 118 (.agg #[.int .i64 a, .int .i64 b]) (.agg #[.int .i64 c, .int .i64 d])).run Try.prog w = .ok (.bool (a == c && b == d)) w := by
  have ht := Try.underlying118
  have hE := Try.underlying3
  have hs : ∀ w : World, (sizeOf 3).run Try.prog w = .ok 1 w := fun w => by kernel_rfl
  have hg : ∀ w : World, (isAgg 3).run Try.prog w = .ok false w := fun w => by kernel_rfl
  have hp : ∀ (w : World) (a b : Int) (i : Nat), i < 2 → (part 3 #[.int .i64 a, .int .i64 b] (i * 1)).run Try.prog w = .ok (.int .i64 (if i = 0 then a else b)) w := by
    intro w a b i hi
    match i, hi with
    | 0, _ => simp [part, Sem.run_bind, hg, hs]
    | 1, _ => simp [part, Sem.run_bind, hg, hs]
  have q2 : ∀ (n : Nat) (w : World), (Op.equalIn (n + 1 + 1) 118 (.agg #[.int .i64 a, .int .i64 b]) (.agg #[.int .i64 c, .int .i64 d])).run Try.prog w = .ok (a == c && b == d) w := by
    intro n w
    have e1 : ∀ (w : World) (x y : Int), (Op.equalIn (n + 1) 3 (.int .i64 x) (.int .i64 y)).run Try.prog w = .ok (x == y) w := fun w x y => by
        simp [Op.equalIn, Sem.run_bind, run_underlying hE]
    have h00 := fun w => hp w a b 0 (by omega); have h01 := fun w => hp w a b 1 (by omega)
    have h10 := fun w => hp w c d 0 (by omega); have h11 := fun w => hp w c d 1 (by omega)
    simp only [Nat.zero_mul, Nat.one_mul, if_true, Nat.one_ne_zero, if_false] at h00 h01 h10 h11
    rw [Op.equalIn]
    simp only [Sem.run_bind, run_underlying ht, Result.andThen_ok, hs]
    simp [Std.Legacy.Range.forIn_eq_forIn_range', List.range', Sem.run_bind, h00, h01, h10, h11, e1, Sem.run_ite, hs]
    by_cases h1 : a = c <;> by_cases h2 : b = d <;> simp [h1, h2]
  rw [run_eql_struct, show (10000 : Nat) = 9998 + 1 + 1 from rfl, q2 9998]; rfl
theorem arr2_kl : KL Try.prog 118 arr2K := arr2KL Try.underlying118 Try.underlying3 (fun w => by kernel_rfl) (fun w => by kernel_rfl)
theorem int_z (w : World) : (zeroValue 3).run Try.prog w = .ok (intK 0) w := by kernel_rfl
theorem MapG.eq {K V : Type} [DecidableEq K] {kv : K → Value} {enc : V → Value} {z : V} {w : World} {B : Nat} {g g' : K → V} (h : MapG kv enc z w B g) (e : g = g') : MapG kv enc z w B g' := e ▸ h

set_option maxRecDepth 100000 in
theorem itemCheck_any (c : Int) (r : Int) (v : Value) (l : List OpT) (ts : Int) (w : World) (hs : SliceOf opE 3 w v l) :
    Calls Try.prog 21 #[.agg #[.int .i64 c, .int .i64 r, v, .int .u64 ts]] w fun e w' => e = .returned (.int .i64 (chkB c r l)) ∧ Below w.heap.size w w' := by
  have hB0 := Below.refl w.heap.size w
  have hl_hs := sl_len hs
  refine co_enter (n := 6) Try.func21 rfl rfl rfl [(0, .agg #[.int .i64 c, .int .i64 r, v, .int .u64 ts])] rfl (fun a h0 => ?_)
  refine co_seq ?_
  refine co_reg ?_
  refine pl_want h0 rfl rfl rfl (op_new (v := fun N => .pointer (some ⟨N, 0, none⟩)) (T := 34) (cs := #[.int .i64 c, .int .i64 r, v, .int .u64 ts]) (by kernel_rfl) (by kernel_rfl) (by kernel_rfl)) ?_; clear h0
  rintro _ w2 a1 ⟨N3, rfl, hN6, hz7, hk5, hg4⟩ h1
  have hB8 := hb_new hB0 hg4
  have hz9 := hB8.size
  have hz10 := hg4.size
  try dsimp only at h1
  refine pl_val (v := .int .i64 0) h1 rfl rfl rfl (by kernel_rfl) (by kernel_rfl) (by kernel_rfl) (fun a11 h11 => ?_); clear h1
  refine pl_nil ?_
  refine co_then ?_
  refine co_seq ?_
  refine co_reg ?_
  refine pl_val (v := .pointer (some ⟨N3, 0, none⟩)) h11 rfl rfl rfl (by kernel_rfl) (by kernel_rfl) (by kernel_rfl) (fun a12 h12 => ?_); clear h11
  refine pl_val (v := .agg #[.int .i64 c, .int .i64 r, v]) h12 rfl rfl rfl (by kernel_rfl) (by kernel_rfl) (rn_loadN rfl rfl Try.underlying31 rfl (by kernel_rfl) (blk_part hk5 0 (by rfl))) (fun a13 h13 => ?_); clear h12
  refine pl_want h13 rfl rfl rfl (op_call (args := #[.agg #[.int .i64 c, .int .i64 r, v]]) (R := fun res xw => res = .int .i64 (chkB c r l) ∧ Below w2.heap.size w2 xw) rfl rfl rfl (by kernel_rfl) (by kernel_rfl) (Try.call63 _ _) (opsCheck_any c r v l w2 (hs.below hB8)) (by rintro e x ⟨rfl, hb16⟩; exact ⟨_, rfl, ⟨rfl, hb16⟩⟩)) ?_; clear h13
  rintro _ w15 a14 ⟨rfl, hb16⟩ h14
  have hB17 := hb_call hB8 hb16
  have hz18 := hB17.size
  have hz19 := hb16.size
  have hk20 := hk5.below hb16
  refine pl_val (v := .int .i64 (chkB c r l)) h14 rfl rfl rfl (by kernel_rfl) (by kernel_rfl) (by kernel_rfl) (fun a21 h21 => ?_); clear h14
  refine pl_nil ?_
  refine co_then ?_
  refine wp_ret ?_
  refine co_ret1 h21 rfl rfl ?_
  exact ⟨rfl, hB17⟩
set_option maxRecDepth 100000 in
theorem ritemCheck_any (c : Int) (r : Int) (v : Value) (l : List OpT) (ts : Int) (w : World) (hs : SliceOf opE 3 w v l) :
    Calls Try.prog 22 #[.agg #[.int .i64 c, .int .i64 r, v, .int .u64 ts]] w fun e w' => e = .returned (.int .i64 (chkB c r l)) ∧ Below w.heap.size w w' := by
  have hB0 := Below.refl w.heap.size w
  have hl_hs := sl_len hs
  refine co_enter (n := 6) Try.func22 rfl rfl rfl [(0, .agg #[.int .i64 c, .int .i64 r, v, .int .u64 ts])] rfl (fun a h0 => ?_)
  refine co_seq ?_
  refine co_reg ?_
  refine pl_want h0 rfl rfl rfl (op_new (v := fun N => .pointer (some ⟨N, 0, none⟩)) (T := 34) (cs := #[.int .i64 c, .int .i64 r, v, .int .u64 ts]) (by kernel_rfl) (by kernel_rfl) (by kernel_rfl)) ?_; clear h0
  rintro _ w2 a1 ⟨N3, rfl, hN6, hz7, hk5, hg4⟩ h1
  have hB8 := hb_new hB0 hg4
  have hz9 := hB8.size
  have hz10 := hg4.size
  try dsimp only at h1
  refine pl_val (v := .int .i64 0) h1 rfl rfl rfl (by kernel_rfl) (by kernel_rfl) (by kernel_rfl) (fun a11 h11 => ?_); clear h1
  refine pl_nil ?_
  refine co_then ?_
  refine co_seq ?_
  refine co_reg ?_
  refine pl_val (v := .pointer (some ⟨N3, 0, none⟩)) h11 rfl rfl rfl (by kernel_rfl) (by kernel_rfl) (by kernel_rfl) (fun a12 h12 => ?_); clear h11
  refine pl_val (v := .agg #[.int .i64 c, .int .i64 r, v]) h12 rfl rfl rfl (by kernel_rfl) (by kernel_rfl) (rn_loadN rfl rfl Try.underlying31 rfl (by kernel_rfl) (blk_part hk5 0 (by rfl))) (fun a13 h13 => ?_); clear h12
  refine pl_want h13 rfl rfl rfl (op_call (args := #[.agg #[.int .i64 c, .int .i64 r, v]]) (R := fun res xw => res = .int .i64 (chkB c r l) ∧ Below w2.heap.size w2 xw) rfl rfl rfl (by kernel_rfl) (by kernel_rfl) (Try.call64 _ _) (ropsCheck_any c r v l w2 (hs.below hB8)) (by rintro e x ⟨rfl, hb16⟩; exact ⟨_, rfl, ⟨rfl, hb16⟩⟩)) ?_; clear h13
  rintro _ w15 a14 ⟨rfl, hb16⟩ h14
  have hB17 := hb_call hB8 hb16
  have hz18 := hB17.size
  have hz19 := hb16.size
  have hk20 := hk5.below hb16
  refine pl_val (v := .int .i64 (chkB c r l)) h14 rfl rfl rfl (by kernel_rfl) (by kernel_rfl) (by kernel_rfl) (fun a21 h21 => ?_); clear h14
  refine pl_nil ?_
  refine co_then ?_
  refine wp_ret ?_
  refine co_ret1 h21 rfl rfl ?_
  exact ⟨rfl, hB17⟩
set_option maxRecDepth 100000 in
theorem itemPut_any (c : Int) (r : Int) (v : Value) (l : List OpT) (ts : Int) (w : World) (hs : SliceOf opE 3 w v l) (hts : 0 ≤ ts ∧ ts < 18446744073709551616) :
    Calls Try.prog 19 #[.agg #[.int .i64 c, .int .i64 r, v, .int .u64 ts]] w fun e w' => e = .returned (.tuple #[.string (putE c r l ts), .int .i64 (chkB c r l)]) ∧ Below w.heap.size w w' := by
  have hsm := putB_small (c := c) (r := r) (l := l)
  have hB0 := Below.refl w.heap.size w
  have hl_hs := sl_len hs
  refine co_enter (n := 24) Try.func19 rfl rfl rfl [(0, .agg #[.int .i64 c, .int .i64 r, v, .int .u64 ts])] rfl (fun a h0 => ?_)
  refine co_seq ?_
  refine co_reg ?_
  refine pl_want h0 rfl rfl rfl (op_new (v := fun N => .pointer (some ⟨N, 0, none⟩)) (T := 34) (cs := #[.int .i64 c, .int .i64 r, v, .int .u64 ts]) (by kernel_rfl) (by kernel_rfl) (by kernel_rfl)) ?_; clear h0
  rintro _ w2 a1 ⟨N3, rfl, hN6, hz7, hk5, hg4⟩ h1
  have hB8 := hb_new hB0 hg4
  have hz9 := hB8.size
  have hz10 := hg4.size
  try dsimp only at h1
  refine pl_val (v := .string (⟨#[]⟩)) h1 rfl rfl rfl (by kernel_rfl) (by kernel_rfl) (by kernel_rfl) (fun a11 h11 => ?_); clear h1
  refine pl_val (v := .int .i64 0) h11 rfl rfl rfl (by kernel_rfl) (by kernel_rfl) (by kernel_rfl) (fun a12 h12 => ?_); clear h11
  refine pl_nil ?_
  refine co_then ?_
  refine co_seq ?_
  refine co_reg ?_
  refine pl_val (v := .pointer (some ⟨N3, 0, none⟩)) h12 rfl rfl rfl (by kernel_rfl) (by kernel_rfl) (by kernel_rfl) (fun a13 h13 => ?_); clear h12
  refine pl_val (v := .agg #[.int .i64 c, .int .i64 r, v]) h13 rfl rfl rfl (by kernel_rfl) (by kernel_rfl) (rn_loadN rfl rfl Try.underlying31 rfl (by kernel_rfl) (blk_part hk5 0 (by rfl))) (fun a14 h14 => ?_); clear h13
  refine pl_want h14 rfl rfl rfl (op_call (args := #[.agg #[.int .i64 c, .int .i64 r, v]]) (R := fun res xw => res = .tuple #[.string (putB c r l), .int .i64 (chkB c r l)] ∧ Below w2.heap.size w2 xw) rfl rfl rfl (by kernel_rfl) (by kernel_rfl) (Try.call49 _ _) (opsPut_any c r v l w2 (hs.below hB8)) (by rintro e x ⟨rfl, hb17⟩; exact ⟨_, rfl, ⟨rfl, hb17⟩⟩)) ?_; clear h14
  rintro _ w16 a15 ⟨rfl, hb17⟩ h15
  have hB18 := hb_call hB8 hb17
  have hz19 := hB18.size
  have hz20 := hb17.size
  have hk21 := hk5.below hb17
  refine pl_val (v := .tuple #[.string (putB c r l), .int .i64 (chkB c r l)]) h15 rfl rfl rfl (by kernel_rfl) (by kernel_rfl) (by kernel_rfl) (fun a22 h22 => ?_); clear h15
  refine pl_val (v := .string (putB c r l)) h22 rfl rfl rfl (by kernel_rfl) (by kernel_rfl) (by kernel_rfl) (fun a23 h23 => ?_); clear h22
  refine pl_val (v := .int .i64 (chkB c r l)) h23 rfl rfl rfl (by kernel_rfl) (by kernel_rfl) (by kernel_rfl) (fun a24 h24 => ?_); clear h23
  refine pl_val (v := .string (putB c r l)) h24 rfl rfl rfl (by kernel_rfl) (by kernel_rfl) (by kernel_rfl) (fun a25 h25 => ?_); clear h24
  refine pl_val (v := .int .i64 (chkB c r l)) h25 rfl rfl rfl (by kernel_rfl) (by kernel_rfl) (by kernel_rfl) (fun a26 h26 => ?_); clear h25
  refine pl_nil ?_
  refine co_then ?_
  refine co_seq ?_
  refine co_seq ?_
  refine co_reg ?_
  refine pl_val (v := .int .i64 (chkB c r l)) h26 rfl rfl rfl (by kernel_rfl) (by kernel_rfl) (by kernel_rfl) (fun a27 h27 => ?_); clear h26
  refine pl_val (v := .bool (chkB c r l != 0)) h27 rfl rfl rfl (by kernel_rfl) (by kernel_rfl) (by kernel_rfl) (fun a28 h28 => ?_); clear h27
  refine pl_nil ?_
  refine co_then ?_
  cases hc29 : (chkB c r l != 0)
  ·
    rw [hc29] at h28
    have hp30 : ¬ (chkB c r l ≠ 0) := by first | simpa using hc29 | simpa [and_assoc] using hc29
    clear hc29
    refine co_false h28 rfl ?_
    refine wp_skip ?_
    refine co_then ?_
    refine co_seq ?_
    refine dr_gen (fun x => Below w.heap.size w x ∧ Blk x N3 34 #[.int .i64 c, .int .i64 r, v, .int .u64 ts]) (by kernel_rfl) (fun w31 hg32 => ?_) (fun w31 hg32 => ?_)
    ·
      have hB33 := hb_new hB18 hg32
      have hz34 := hB33.size
      have hz35 := hg32.size
      have hk36 := hk21.kept hg32 (by simp)
      exact ⟨hB33, hk36⟩
    have hB37 := hb_new hB18 hg32
    have hz38 := hB37.size
    have hz39 := hg32.size
    have hk40 := hk21.kept hg32 (by simp)
    refine dr_take (i := 1) (v := .pointer (some ⟨N3, 3, none⟩)) h28 rfl (by kernel_rfl) (by kernel_rfl) (by kernel_rfl) rfl rfl rfl ⟨hB37, hk40⟩ (by kernel_rfl) (fun _ _ => by kernel_rfl) (fun a41 h41 => ?_); clear h28
    refine dr_take (i := 2) (v := .int .u64 ts) h41 rfl (by kernel_rfl) (by kernel_rfl) (by kernel_rfl) rfl rfl rfl ⟨hB37, hk40⟩ (by kernel_rfl) (fun x hx => (rn_load1 rfl rfl Try.isAgg32 (hx.2.cell rfl))) (fun a42 h42 => ?_); clear h41
    refine dr_take (i := 4) (v := .string (putB c r l)) h42 rfl (by kernel_rfl) (by kernel_rfl) (by kernel_rfl) rfl rfl rfl ⟨hB37, hk40⟩ (by kernel_rfl) (fun _ _ => by kernel_rfl) (fun a43 h43 => ?_); clear h42
    refine dr_one (i := 0) h43 rfl (by kernel_rfl) rfl rfl rfl (op_call (args := #[]) (R := fun res xw => ∃ b : Nat, res = .pointer (some ⟨b, 0, none⟩) ∧ b = w31.heap.size ∧ OW b [] 0 xw ∧ Below w31.heap.size w31 xw) rfl rfl rfl (by kernel_rfl) (by kernel_rfl) (Try.call55 _ _) (ow_new w31) (by rintro e x ⟨b, rfl, h0, h1, h2⟩; exact ⟨_, rfl, b, rfl, h0, h1, h2⟩)) ?_ ?_; clear h43
    ·
      rintro _ w45 ⟨b46, rfl, hN47, ho48, hb49⟩
      have hB50 := hb_call hB37 hb49
      have hz51 := hB50.size
      have hz52 := hb49.size
      have hk53 := hk40.below hb49
      have hl54 := ho48.lt
      exact ⟨hB50, hk53⟩
    rintro _ w45 a44 ⟨b46, rfl, hN47, ho48, hb49⟩ h44
    have hB50 := hb_call hB37 hb49
    have hz51 := hB50.size
    have hz52 := hb49.size
    have hk53 := hk40.below hb49
    have hl54 := ho48.lt
    refine dr_one (i := 3) h44 rfl (by kernel_rfl) rfl rfl rfl (op_call (args := #[.pointer (some ⟨b46, 0, none⟩), .int .u64 ts]) (R := fun res xw => res = .pointer (some ⟨b46, 0, none⟩) ∧ OW b46 (([] : List UInt8) ++ putL ts) (0 + 9) xw ∧ But (Rw w45 b46) w45 xw) rfl rfl rfl (by kernel_rfl) (by kernel_rfl) (Try.call56 _ _) (ow_big b46 ([]) 0 ts w45 ho48 (by omega) (by omega) (by omega)) (by rintro e x ⟨rfl, h1, h2⟩; exact ⟨_, rfl, rfl, h1, h2⟩)) ?_ ?_; clear h44
    ·
      rintro _ w56 ⟨rfl, ho57, hx58⟩
      have hB59 := hb_wr hB50 ho48 (by omega) hx58
      have hz60 := hB59.size
      have hz61 := hx58.size
      have hk62 := blk_wr hk53 ho48 (by decide) (by omega) hx58
      have hl63 := ho57.lt
      exact ⟨hB59, hk62⟩
    rintro _ w56 a55 ⟨rfl, ho57, hx58⟩ h55
    have hB59 := hb_wr hB50 ho48 (by omega) hx58
    have hz60 := hB59.size
    have hz61 := hx58.size
    have hk62 := blk_wr hk53 ho48 (by decide) (by omega) hx58
    have hl63 := ho57.lt
    refine dr_one (i := 5) h55 rfl (by kernel_rfl) rfl rfl rfl (op_call (args := #[.pointer (some ⟨b46, 0, none⟩), .string (putB c r l)]) (R := fun res xw => res = .pointer (some ⟨b46, 0, none⟩) ∧ OW b46 ((([] : List UInt8) ++ putL ts) ++ (putL ((putB c r l : ByteArray).size : Int) ++ (putB c r l : ByteArray).data.toList)) (0 + 9 + (9 + (putB c r l : ByteArray).size)) xw ∧ But (Rw w56 b46) w56 xw) rfl rfl rfl (by kernel_rfl) (by kernel_rfl) (Try.call57 _ _) (ow_text b46 (([] : List UInt8) ++ putL ts) (0 + 9) (putB c r l) w56 ho57 (by first | omega | (simp; done) | (simp; omega))) (by rintro e x ⟨rfl, h1, h2⟩; exact ⟨_, rfl, rfl, h1, h2⟩)) ?_ ?_; clear h55
    ·
      rintro _ w65 ⟨rfl, ho66, hx67⟩
      have hB68 := hb_wr hB59 ho57 (by omega) hx67
      have hz69 := hB68.size
      have hz70 := hx67.size
      have hk71 := blk_wr hk62 ho57 (by decide) (by omega) hx67
      have hl72 := ho66.lt
      exact ⟨hB68, hk71⟩
    rintro _ w65 a64 ⟨rfl, ho66, hx67⟩ h64
    have hB68 := hb_wr hB59 ho57 (by omega) hx67
    have hz69 := hB68.size
    have hz70 := hx67.size
    have hk71 := blk_wr hk62 ho57 (by decide) (by omega) hx67
    have hl72 := ho66.lt
    refine dr_one (i := 6) h64 rfl (by kernel_rfl) rfl rfl rfl (op_call (args := #[.pointer (some ⟨b46, 0, none⟩)]) (R := fun res xw => res = .tuple #[.string (⟨((([] : List UInt8) ++ putL ts) ++ (putL ((putB c r l : ByteArray).size : Int) ++ (putB c r l : ByteArray).data.toList)).toArray⟩), .int .i64 0] ∧ Below w65.heap.size w65 xw) rfl rfl rfl (by kernel_rfl) (by kernel_rfl) (Try.call58 _ _) (ow_done b46 ((([] : List UInt8) ++ putL ts) ++ (putL ((putB c r l : ByteArray).size : Int) ++ (putB c r l : ByteArray).data.toList)) (0 + 9 + (9 + (putB c r l : ByteArray).size)) w65 ho66) (by rintro e x ⟨rfl, h2⟩; exact ⟨_, rfl, rfl, h2⟩)) ?_ ?_; clear h64
    ·
      rintro _ w74 ⟨rfl, hb75⟩
      have hB76 := hb_call hB68 hb75
      have hz77 := hB76.size
      have hz78 := hb75.size
      have hk79 := hk71.below hb75
      have ho80 := ho66.below hb75
      exact ⟨hB76, hk79⟩
    rintro _ w74 a73 ⟨rfl, hb75⟩ h73
    have hB76 := hb_call hB68 hb75
    have hz77 := hB76.size
    have hz78 := hb75.size
    have hk79 := hk71.below hb75
    have ho80 := ho66.below hb75
    refine dr_take (i := 7) (v := .string (⟨((([] : List UInt8) ++ putL ts) ++ (putL ((putB c r l : ByteArray).size : Int) ++ (putB c r l : ByteArray).data.toList)).toArray⟩)) h73 rfl (by kernel_rfl) (by kernel_rfl) (by kernel_rfl) rfl rfl rfl ⟨hB76, hk79⟩ (by kernel_rfl) (fun _ _ => by kernel_rfl) (fun a81 h81 => ?_); clear h73
    refine dr_take (i := 8) (v := .int .i64 0) h81 rfl (by kernel_rfl) (by kernel_rfl) (by kernel_rfl) rfl rfl rfl ⟨hB76, hk79⟩ (by kernel_rfl) (fun _ _ => by kernel_rfl) (fun a82 h82 => ?_); clear h81
    refine dr_take (i := 9) (v := .string (⟨((([] : List UInt8) ++ putL ts) ++ (putL ((putB c r l : ByteArray).size : Int) ++ (putB c r l : ByteArray).data.toList)).toArray⟩)) h82 rfl (by kernel_rfl) (by kernel_rfl) (by kernel_rfl) rfl rfl rfl ⟨hB76, hk79⟩ (by kernel_rfl) (fun _ _ => by kernel_rfl) (fun a83 h83 => ?_); clear h82
    refine dr_take (i := 10) (v := .int .i64 0) h83 rfl (by kernel_rfl) (by kernel_rfl) (by kernel_rfl) rfl rfl rfl ⟨hB76, hk79⟩ (by kernel_rfl) (fun _ _ => by kernel_rfl) (fun a84 h84 => ?_); clear h83
    refine dr_done (by kernel_rfl) ?_
    refine co_then ?_
    refine wp_ret ?_
    refine co_ret2 h84 rfl rfl rfl ?_
    exact ⟨by rw [putE_ok (by omega), show chkB c r l = 0 by omega]; simp [putEL], hB76⟩
  ·
    rw [hc29] at h28
    have hp85 : chkB c r l ≠ 0 := by first | simpa using hc29 | simpa [and_assoc] using hc29
    clear hc29
    refine co_true h28 rfl ?_
    refine co_seq ?_
    refine co_reg ?_
    refine pl_val (v := .int .i64 (chkB c r l)) h28 rfl rfl rfl (by kernel_rfl) (by kernel_rfl) (by kernel_rfl) (fun a86 h86 => ?_); clear h28
    refine pl_val (v := .string (⟨#[]⟩)) h86 rfl rfl rfl (by kernel_rfl) (by kernel_rfl) (by kernel_rfl) (fun a87 h87 => ?_); clear h86
    refine pl_val (v := .int .i64 (chkB c r l)) h87 rfl rfl rfl (by kernel_rfl) (by kernel_rfl) (by kernel_rfl) (fun a88 h88 => ?_); clear h87
    refine pl_nil ?_
    refine co_then ?_
    refine wp_ret ?_
    refine co_thenR ?_
    refine co_ret2 h88 rfl rfl rfl ?_
    exact ⟨by rw [putE_err (by assumption)], hB18⟩
set_option maxRecDepth 100000 in
theorem ritemPut_any (c : Int) (r : Int) (v : Value) (l : List OpT) (ts : Int) (w : World) (hs : SliceOf opE 3 w v l) (hts : 0 ≤ ts ∧ ts < 18446744073709551616) :
    Calls Try.prog 20 #[.agg #[.int .i64 c, .int .i64 r, v, .int .u64 ts]] w fun e w' => e = .returned (.tuple #[.string (putE c r l ts), .int .i64 (chkB c r l)]) ∧ Below w.heap.size w w' := by
  have hsm := putB_small (c := c) (r := r) (l := l)
  have hB0 := Below.refl w.heap.size w
  have hl_hs := sl_len hs
  refine co_enter (n := 29) Try.func20 rfl rfl rfl [(0, .agg #[.int .i64 c, .int .i64 r, v, .int .u64 ts])] rfl (fun a h0 => ?_)
  refine co_seq ?_
  refine co_reg ?_
  refine pl_want h0 rfl rfl rfl (op_new (v := fun N => .pointer (some ⟨N, 0, none⟩)) (T := 34) (cs := #[.int .i64 c, .int .i64 r, v, .int .u64 ts]) (by kernel_rfl) (by kernel_rfl) (by kernel_rfl)) ?_; clear h0
  rintro _ w2 a1 ⟨N3, rfl, hN6, hz7, hk5, hg4⟩ h1
  have hB8 := hb_new hB0 hg4
  have hz9 := hB8.size
  have hz10 := hg4.size
  try dsimp only at h1
  refine pl_val (v := .string (⟨#[]⟩)) h1 rfl rfl rfl (by kernel_rfl) (by kernel_rfl) (by kernel_rfl) (fun a11 h11 => ?_); clear h1
  refine pl_val (v := .int .i64 0) h11 rfl rfl rfl (by kernel_rfl) (by kernel_rfl) (by kernel_rfl) (fun a12 h12 => ?_); clear h11
  refine pl_nil ?_
  refine co_then ?_
  refine co_seq ?_
  refine co_reg ?_
  refine pl_val (v := .pointer (some ⟨N3, 0, none⟩)) h12 rfl rfl rfl (by kernel_rfl) (by kernel_rfl) (by kernel_rfl) (fun a13 h13 => ?_); clear h12
  refine pl_val (v := .agg #[.int .i64 c, .int .i64 r, v]) h13 rfl rfl rfl (by kernel_rfl) (by kernel_rfl) (rn_loadN rfl rfl Try.underlying31 rfl (by kernel_rfl) (blk_part hk5 0 (by rfl))) (fun a14 h14 => ?_); clear h13
  refine pl_want h14 rfl rfl rfl (op_call (args := #[.agg #[.int .i64 c, .int .i64 r, v]]) (R := fun res xw => res = .tuple #[.string (putB c r l), .int .i64 (chkB c r l)] ∧ Below w2.heap.size w2 xw) rfl rfl rfl (by kernel_rfl) (by kernel_rfl) (Try.call59 _ _) (ropsPut_any c r v l w2 (hs.below hB8)) (by rintro e x ⟨rfl, hb17⟩; exact ⟨_, rfl, ⟨rfl, hb17⟩⟩)) ?_; clear h14
  rintro _ w16 a15 ⟨rfl, hb17⟩ h15
  have hB18 := hb_call hB8 hb17
  have hz19 := hB18.size
  have hz20 := hb17.size
  have hk21 := hk5.below hb17
  refine pl_val (v := .tuple #[.string (putB c r l), .int .i64 (chkB c r l)]) h15 rfl rfl rfl (by kernel_rfl) (by kernel_rfl) (by kernel_rfl) (fun a22 h22 => ?_); clear h15
  refine pl_val (v := .string (putB c r l)) h22 rfl rfl rfl (by kernel_rfl) (by kernel_rfl) (by kernel_rfl) (fun a23 h23 => ?_); clear h22
  refine pl_val (v := .int .i64 (chkB c r l)) h23 rfl rfl rfl (by kernel_rfl) (by kernel_rfl) (by kernel_rfl) (fun a24 h24 => ?_); clear h23
  refine pl_val (v := .string (putB c r l)) h24 rfl rfl rfl (by kernel_rfl) (by kernel_rfl) (by kernel_rfl) (fun a25 h25 => ?_); clear h24
  refine pl_val (v := .int .i64 (chkB c r l)) h25 rfl rfl rfl (by kernel_rfl) (by kernel_rfl) (by kernel_rfl) (fun a26 h26 => ?_); clear h25
  refine pl_nil ?_
  refine co_then ?_
  refine co_seq ?_
  refine co_seq ?_
  refine co_reg ?_
  refine pl_val (v := .int .i64 (chkB c r l)) h26 rfl rfl rfl (by kernel_rfl) (by kernel_rfl) (by kernel_rfl) (fun a27 h27 => ?_); clear h26
  refine pl_val (v := .bool (chkB c r l != 0)) h27 rfl rfl rfl (by kernel_rfl) (by kernel_rfl) (by kernel_rfl) (fun a28 h28 => ?_); clear h27
  refine pl_nil ?_
  refine co_then ?_
  cases hc29 : (chkB c r l != 0)
  ·
    rw [hc29] at h28
    have hp30 : ¬ (chkB c r l ≠ 0) := by first | simpa using hc29 | simpa [and_assoc] using hc29
    clear hc29
    refine co_false h28 rfl ?_
    refine wp_skip ?_
    refine co_then ?_
    refine co_seq ?_
    refine co_reg ?_
    refine pl_val (v := .agg #[.string (⟨#[]⟩), .int .i64 0]) h28 rfl rfl rfl (by kernel_rfl) (by kernel_rfl) (by kernel_rfl) (fun a31 h31 => ?_); clear h28
    refine pl_want h31 rfl rfl rfl (op_new (v := fun N => .pointer (some ⟨N, 0, none⟩)) (T := 111) (cs := #[.string (⟨#[]⟩), .int .i64 0]) (by kernel_rfl) (by kernel_rfl) (by kernel_rfl)) ?_; clear h31
    rintro _ w33 a32 ⟨N34, rfl, hN37, hz38, hk36, hg35⟩ h32
    have hB39 := hb_new hB18 hg35
    have hz40 := hB39.size
    have hz41 := hg35.size
    have hk42 := hk21.kept hg35 (by simp)
    try dsimp only at h32
    refine pl_val (v := .pointer (some ⟨N34, 0, none⟩)) h32 rfl rfl rfl (by kernel_rfl) (by kernel_rfl) (by kernel_rfl) (fun a43 h43 => ?_); clear h32
    refine pl_nil ?_
    refine co_then ?_
    refine co_seq ?_
    refine co_reg ?_
    refine pl_val (v := .pointer (some ⟨N34, 0, none⟩)) h43 rfl rfl rfl (by kernel_rfl) (by kernel_rfl) (by kernel_rfl) (fun a44 h44 => ?_); clear h43
    refine pl_val (v := .pointer (some ⟨N3, 3, none⟩)) h44 rfl rfl rfl (by kernel_rfl) (by kernel_rfl) (by kernel_rfl) (fun a45 h45 => ?_); clear h44
    refine pl_val (v := .int .u64 ts) h45 rfl rfl rfl (by kernel_rfl) (by kernel_rfl) (rn_load1 rfl rfl Try.isAgg32 (hk42.cell rfl)) (fun a46 h46 => ?_); clear h45
    have ho49 := ox_of hk36
    refine pl_want h46 rfl rfl rfl (op_call (args := #[.pointer (some ⟨N34, 0, none⟩), .int .u64 ts]) (R := fun res xw => res = .tuple #[] ∧ OX N34 (([] : List UInt8) ++ putL ts) (0 + 9) xw ∧ w33.grownBy xw (some N34)) rfl rfl rfl (by kernel_rfl) (by kernel_rfl) (Try.call60 _ _) (ox_big N34 ([]) 0 ts w33 ho49 (by omega) (by omega) (by omega)) (by rintro e x ⟨rfl, h1, h2⟩; exact ⟨_, rfl, rfl, h1, h2⟩)) ?_; clear h46
    rintro _ w48 a47 ⟨rfl, ho50, hx51⟩ h47
    have hB52 := hb_at hB39 hx51 (by omega)
    have hz53 := hB52.size
    have hz54 := hx51.size
    have hk55 := hk42.kept hx51 (by simp; omega)
    have hl56 := ho50.lt
    refine pl_nil ?_
    refine co_then ?_
    refine co_seq ?_
    refine co_reg ?_
    refine pl_val (v := .pointer (some ⟨N34, 0, none⟩)) h47 rfl rfl rfl (by kernel_rfl) (by kernel_rfl) (by kernel_rfl) (fun a57 h57 => ?_); clear h47
    refine pl_val (v := .string (putB c r l)) h57 rfl rfl rfl (by kernel_rfl) (by kernel_rfl) (by kernel_rfl) (fun a58 h58 => ?_); clear h57
    refine pl_want h58 rfl rfl rfl (op_call (args := #[.pointer (some ⟨N34, 0, none⟩), .string (putB c r l)]) (R := fun res xw => res = .tuple #[] ∧ OX N34 ((([] : List UInt8) ++ putL ts) ++ (putL ((putB c r l : ByteArray).size : Int) ++ (putB c r l : ByteArray).data.toList)) (0 + 9 + (9 + (putB c r l : ByteArray).size)) xw ∧ w48.grownBy xw (some N34)) rfl rfl rfl (by kernel_rfl) (by kernel_rfl) (Try.call61 _ _) (ox_text N34 (([] : List UInt8) ++ putL ts) (0 + 9) (putB c r l) w48 ho50 (by first | omega | (simp; done) | (simp; omega))) (by rintro e x ⟨rfl, h1, h2⟩; exact ⟨_, rfl, rfl, h1, h2⟩)) ?_; clear h58
    rintro _ w60 a59 ⟨rfl, ho61, hx62⟩ h59
    have hB63 := hb_at hB52 hx62 (by omega)
    have hz64 := hB63.size
    have hz65 := hx62.size
    have hk66 := hk55.kept hx62 (by simp; omega)
    have hl67 := ho61.lt
    refine pl_nil ?_
    refine co_then ?_
    refine co_seq ?_
    refine co_reg ?_
    refine pl_val (v := .pointer (some ⟨N34, 0, none⟩)) h59 rfl rfl rfl (by kernel_rfl) (by kernel_rfl) (by kernel_rfl) (fun a68 h68 => ?_); clear h59
    refine pl_want h68 rfl rfl rfl (op_call (args := #[.pointer (some ⟨N34, 0, none⟩)]) (R := fun res xw => res = .tuple #[.string (⟨((([] : List UInt8) ++ putL ts) ++ (putL ((putB c r l : ByteArray).size : Int) ++ (putB c r l : ByteArray).data.toList)).toArray⟩), .int .i64 0] ∧ Below w60.heap.size w60 xw) rfl rfl rfl (by kernel_rfl) (by kernel_rfl) (Try.call62 _ _) (ox_done N34 ((([] : List UInt8) ++ putL ts) ++ (putL ((putB c r l : ByteArray).size : Int) ++ (putB c r l : ByteArray).data.toList)) (0 + 9 + (9 + (putB c r l : ByteArray).size)) w60 ho61) (by rintro e x ⟨rfl, h2⟩; exact ⟨_, rfl, rfl, h2⟩)) ?_; clear h68
    rintro _ w70 a69 ⟨rfl, hb71⟩ h69
    have hB72 := hb_call hB63 hb71
    have hz73 := hB72.size
    have hz74 := hb71.size
    have hk75 := hk66.below hb71
    have ho76 := ho61.below hb71
    refine pl_val (v := .string (⟨((([] : List UInt8) ++ putL ts) ++ (putL ((putB c r l : ByteArray).size : Int) ++ (putB c r l : ByteArray).data.toList)).toArray⟩)) h69 rfl rfl rfl (by kernel_rfl) (by kernel_rfl) (by kernel_rfl) (fun a77 h77 => ?_); clear h69
    refine pl_val (v := .int .i64 0) h77 rfl rfl rfl (by kernel_rfl) (by kernel_rfl) (by kernel_rfl) (fun a78 h78 => ?_); clear h77
    refine pl_val (v := .string (⟨((([] : List UInt8) ++ putL ts) ++ (putL ((putB c r l : ByteArray).size : Int) ++ (putB c r l : ByteArray).data.toList)).toArray⟩)) h78 rfl rfl rfl (by kernel_rfl) (by kernel_rfl) (by kernel_rfl) (fun a79 h79 => ?_); clear h78
    refine pl_val (v := .int .i64 0) h79 rfl rfl rfl (by kernel_rfl) (by kernel_rfl) (by kernel_rfl) (fun a80 h80 => ?_); clear h79
    refine pl_nil ?_
    refine co_then ?_
    refine wp_ret ?_
    refine co_ret2 h80 rfl rfl rfl ?_
    exact ⟨by rw [putE_ok (by omega), show chkB c r l = 0 by omega]; simp [putEL], hB72⟩
  ·
    rw [hc29] at h28
    have hp81 : chkB c r l ≠ 0 := by first | simpa using hc29 | simpa [and_assoc] using hc29
    clear hc29
    refine co_true h28 rfl ?_
    refine co_seq ?_
    refine co_reg ?_
    refine pl_val (v := .int .i64 (chkB c r l)) h28 rfl rfl rfl (by kernel_rfl) (by kernel_rfl) (by kernel_rfl) (fun a82 h82 => ?_); clear h28
    refine pl_val (v := .string (⟨#[]⟩)) h82 rfl rfl rfl (by kernel_rfl) (by kernel_rfl) (by kernel_rfl) (fun a83 h83 => ?_); clear h82
    refine pl_val (v := .int .i64 (chkB c r l)) h83 rfl rfl rfl (by kernel_rfl) (by kernel_rfl) (by kernel_rfl) (fun a84 h84 => ?_); clear h83
    refine pl_nil ?_
    refine co_then ?_
    refine wp_ret ?_
    refine co_thenR ?_
    refine co_ret2 h84 rfl rfl rfl ?_
    exact ⟨by rw [putE_err (by assumption)], hB18⟩
set_option maxRecDepth 100000 in
theorem itemSame_any (c : Int) (r : Int) (v : Value) (l : List OpT) (ts : Int) (c2 : Int) (r2 : Int) (v2 : Value) (l2 : List OpT) (ts2 : Int) (w : World) (hs : SliceOf opE 3 w v l) (hs2 : SliceOf opE 3 w v2 l2) :
    Calls Try.prog 23 #[.agg #[.int .i64 c, .int .i64 r, v, .int .u64 ts], .agg #[.int .i64 c2, .int .i64 r2, v2, .int .u64 ts2]] w fun e w' => e = .returned (.bool (sameE c r l ts c2 r2 l2 ts2)) ∧ Below w.heap.size w w' := by
  have hB0 := Below.refl w.heap.size w
  have hl_hs := sl_len hs
  have hl_hs2 := sl_len hs2
  refine co_enter (n := 17) Try.func23 rfl rfl rfl [(0, .agg #[.int .i64 c, .int .i64 r, v, .int .u64 ts]), (1, .agg #[.int .i64 c2, .int .i64 r2, v2, .int .u64 ts2])] rfl (fun a h0 => ?_)
  refine co_seq ?_
  refine co_reg ?_
  refine pl_want h0 rfl rfl rfl (op_new (v := fun N => .pointer (some ⟨N, 0, none⟩)) (T := 34) (cs := #[.int .i64 c, .int .i64 r, v, .int .u64 ts]) (by kernel_rfl) (by kernel_rfl) (by kernel_rfl)) ?_; clear h0
  rintro _ w2 a1 ⟨N3, rfl, hN6, hz7, hk5, hg4⟩ h1
  have hB8 := hb_new hB0 hg4
  have hz9 := hB8.size
  have hz10 := hg4.size
  try dsimp only at h1
  refine pl_want h1 rfl rfl rfl (op_new (v := fun N => .pointer (some ⟨N, 0, none⟩)) (T := 34) (cs := #[.int .i64 c2, .int .i64 r2, v2, .int .u64 ts2]) (by kernel_rfl) (by kernel_rfl) (by kernel_rfl)) ?_; clear h1
  rintro _ w12 a11 ⟨N13, rfl, hN16, hz17, hk15, hg14⟩ h11
  have hB18 := hb_new hB8 hg14
  have hz19 := hB18.size
  have hz20 := hg14.size
  have hk21 := hk5.kept hg14 (by simp)
  try dsimp only at h11
  refine pl_val (v := .bool false) h11 rfl rfl rfl (by kernel_rfl) (by kernel_rfl) (by kernel_rfl) (fun a22 h22 => ?_); clear h11
  refine pl_nil ?_
  refine co_then ?_
  refine co_seq ?_
  refine co_reg ?_
  refine pl_val (v := .pointer (some ⟨N3, 3, none⟩)) h22 rfl rfl rfl (by kernel_rfl) (by kernel_rfl) (by kernel_rfl) (fun a23 h23 => ?_); clear h22
  refine pl_val (v := .int .u64 ts) h23 rfl rfl rfl (by kernel_rfl) (by kernel_rfl) (rn_load1 rfl rfl Try.isAgg32 (hk21.cell rfl)) (fun a24 h24 => ?_); clear h23
  refine pl_val (v := .pointer (some ⟨N13, 3, none⟩)) h24 rfl rfl rfl (by kernel_rfl) (by kernel_rfl) (by kernel_rfl) (fun a25 h25 => ?_); clear h24
  refine pl_val (v := .int .u64 ts2) h25 rfl rfl rfl (by kernel_rfl) (by kernel_rfl) (rn_load1 rfl rfl Try.isAgg32 (hk15.cell rfl)) (fun a26 h26 => ?_); clear h25
  refine pl_val (v := .bool (ts == ts2)) h26 rfl rfl rfl (by kernel_rfl) (by kernel_rfl) (by kernel_rfl) (fun a27 h27 => ?_); clear h26
  refine pl_val (v := .bool (ts == ts2)) h27 rfl rfl rfl (by kernel_rfl) (by kernel_rfl) (by kernel_rfl) (fun a28 h28 => ?_); clear h27
  cases hc29 : (ts == ts2)
  ·
    rw [hc29] at h28
    have hp30 : ¬ (ts = ts2) := by first | simpa using hc29 | simpa [and_assoc] using hc29
    clear hc29
    refine pl_skip h28 rfl rfl rfl (fun a31 h31 => ?_); clear h28
    refine pl_skip h31 rfl rfl rfl (fun a32 h32 => ?_); clear h31
    refine pl_skip h32 rfl rfl rfl (fun a33 h33 => ?_); clear h32
    refine pl_skip h33 rfl rfl rfl (fun a34 h34 => ?_); clear h33
    refine pl_skip h34 rfl rfl rfl (fun a35 h35 => ?_); clear h34
    refine pl_val (v := .bool false) h35 rfl rfl rfl (by kernel_rfl) (by kernel_rfl) (by kernel_rfl) (fun a36 h36 => ?_); clear h35
    refine pl_val (v := .bool false) h36 rfl rfl rfl (by kernel_rfl) (by kernel_rfl) (by kernel_rfl) (fun a37 h37 => ?_); clear h36
    refine pl_nil ?_
    refine co_then ?_
    refine wp_ret ?_
    refine co_ret1 h37 rfl rfl ?_
    exact ⟨ret_bool (sameE_n (by omega)), hB18⟩
  ·
    rw [hc29] at h28
    have hp38 : ts = ts2 := by first | simpa using hc29 | simpa [and_assoc] using hc29
    clear hc29
    refine pl_val (v := .pointer (some ⟨N3, 0, none⟩)) h28 rfl rfl rfl (by kernel_rfl) (by kernel_rfl) (by kernel_rfl) (fun a39 h39 => ?_); clear h28
    refine pl_val (v := .agg #[.int .i64 c, .int .i64 r, v]) h39 rfl rfl rfl (by kernel_rfl) (by kernel_rfl) (rn_loadN rfl rfl Try.underlying31 rfl (by kernel_rfl) (blk_part hk21 0 (by rfl))) (fun a40 h40 => ?_); clear h39
    refine pl_val (v := .pointer (some ⟨N13, 0, none⟩)) h40 rfl rfl rfl (by kernel_rfl) (by kernel_rfl) (by kernel_rfl) (fun a41 h41 => ?_); clear h40
    refine pl_val (v := .agg #[.int .i64 c2, .int .i64 r2, v2]) h41 rfl rfl rfl (by kernel_rfl) (by kernel_rfl) (rn_loadN rfl rfl Try.underlying31 rfl (by kernel_rfl) (blk_part hk15 0 (by rfl))) (fun a42 h42 => ?_); clear h41
    refine pl_want h42 rfl rfl rfl (op_call (args := #[.agg #[.int .i64 c, .int .i64 r, v], .agg #[.int .i64 c2, .int .i64 r2, v2]]) (R := fun res xw => res = .bool (sameB c r l c2 r2 l2) ∧ Below w12.heap.size w12 xw) rfl rfl rfl (by kernel_rfl) (by kernel_rfl) (Try.call65 _ _) (opsSame_any c r v l c2 r2 v2 l2 w12 (hs.below hB18) (hs2.below hB18)) (by rintro e x ⟨rfl, hb45⟩; exact ⟨_, rfl, ⟨rfl, hb45⟩⟩)) ?_; clear h42
    rintro _ w44 a43 ⟨rfl, hb45⟩ h43
    have hB46 := hb_call hB18 hb45
    have hz47 := hB46.size
    have hz48 := hb45.size
    have hk49 := hk21.below hb45
    have hk50 := hk15.below hb45
    refine pl_val (v := .bool (sameB c r l c2 r2 l2)) h43 rfl rfl rfl (by kernel_rfl) (by kernel_rfl) (by kernel_rfl) (fun a51 h51 => ?_); clear h43
    refine pl_val (v := .bool (sameB c r l c2 r2 l2)) h51 rfl rfl rfl (by kernel_rfl) (by kernel_rfl) (by kernel_rfl) (fun a52 h52 => ?_); clear h51
    refine pl_nil ?_
    refine co_then ?_
    refine wp_ret ?_
    refine co_ret1 h52 rfl rfl ?_
    exact ⟨ret_bool (sameE_y (by omega)), hB46⟩
set_option maxRecDepth 100000 in
theorem ritemSame_any (c : Int) (r : Int) (v : Value) (l : List OpT) (ts : Int) (c2 : Int) (r2 : Int) (v2 : Value) (l2 : List OpT) (ts2 : Int) (w : World) (hs : SliceOf opE 3 w v l) (hs2 : SliceOf opE 3 w v2 l2) :
    Calls Try.prog 24 #[.agg #[.int .i64 c, .int .i64 r, v, .int .u64 ts], .agg #[.int .i64 c2, .int .i64 r2, v2, .int .u64 ts2]] w fun e w' => e = .returned (.bool (sameE c r l ts c2 r2 l2 ts2)) ∧ Below w.heap.size w w' := by
  have hB0 := Below.refl w.heap.size w
  have hl_hs := sl_len hs
  have hl_hs2 := sl_len hs2
  refine co_enter (n := 17) Try.func24 rfl rfl rfl [(0, .agg #[.int .i64 c, .int .i64 r, v, .int .u64 ts]), (1, .agg #[.int .i64 c2, .int .i64 r2, v2, .int .u64 ts2])] rfl (fun a h0 => ?_)
  refine co_seq ?_
  refine co_reg ?_
  refine pl_want h0 rfl rfl rfl (op_new (v := fun N => .pointer (some ⟨N, 0, none⟩)) (T := 34) (cs := #[.int .i64 c, .int .i64 r, v, .int .u64 ts]) (by kernel_rfl) (by kernel_rfl) (by kernel_rfl)) ?_; clear h0
  rintro _ w2 a1 ⟨N3, rfl, hN6, hz7, hk5, hg4⟩ h1
  have hB8 := hb_new hB0 hg4
  have hz9 := hB8.size
  have hz10 := hg4.size
  try dsimp only at h1
  refine pl_want h1 rfl rfl rfl (op_new (v := fun N => .pointer (some ⟨N, 0, none⟩)) (T := 34) (cs := #[.int .i64 c2, .int .i64 r2, v2, .int .u64 ts2]) (by kernel_rfl) (by kernel_rfl) (by kernel_rfl)) ?_; clear h1
  rintro _ w12 a11 ⟨N13, rfl, hN16, hz17, hk15, hg14⟩ h11
  have hB18 := hb_new hB8 hg14
  have hz19 := hB18.size
  have hz20 := hg14.size
  have hk21 := hk5.kept hg14 (by simp)
  try dsimp only at h11
  refine pl_val (v := .bool false) h11 rfl rfl rfl (by kernel_rfl) (by kernel_rfl) (by kernel_rfl) (fun a22 h22 => ?_); clear h11
  refine pl_nil ?_
  refine co_then ?_
  refine co_seq ?_
  refine co_reg ?_
  refine pl_val (v := .pointer (some ⟨N3, 3, none⟩)) h22 rfl rfl rfl (by kernel_rfl) (by kernel_rfl) (by kernel_rfl) (fun a23 h23 => ?_); clear h22
  refine pl_val (v := .int .u64 ts) h23 rfl rfl rfl (by kernel_rfl) (by kernel_rfl) (rn_load1 rfl rfl Try.isAgg32 (hk21.cell rfl)) (fun a24 h24 => ?_); clear h23
  refine pl_val (v := .pointer (some ⟨N13, 3, none⟩)) h24 rfl rfl rfl (by kernel_rfl) (by kernel_rfl) (by kernel_rfl) (fun a25 h25 => ?_); clear h24
  refine pl_val (v := .int .u64 ts2) h25 rfl rfl rfl (by kernel_rfl) (by kernel_rfl) (rn_load1 rfl rfl Try.isAgg32 (hk15.cell rfl)) (fun a26 h26 => ?_); clear h25
  refine pl_val (v := .bool (ts == ts2)) h26 rfl rfl rfl (by kernel_rfl) (by kernel_rfl) (by kernel_rfl) (fun a27 h27 => ?_); clear h26
  refine pl_val (v := .bool (ts == ts2)) h27 rfl rfl rfl (by kernel_rfl) (by kernel_rfl) (by kernel_rfl) (fun a28 h28 => ?_); clear h27
  cases hc29 : (ts == ts2)
  ·
    rw [hc29] at h28
    have hp30 : ¬ (ts = ts2) := by first | simpa using hc29 | simpa [and_assoc] using hc29
    clear hc29
    refine pl_skip h28 rfl rfl rfl (fun a31 h31 => ?_); clear h28
    refine pl_skip h31 rfl rfl rfl (fun a32 h32 => ?_); clear h31
    refine pl_skip h32 rfl rfl rfl (fun a33 h33 => ?_); clear h32
    refine pl_skip h33 rfl rfl rfl (fun a34 h34 => ?_); clear h33
    refine pl_skip h34 rfl rfl rfl (fun a35 h35 => ?_); clear h34
    refine pl_val (v := .bool false) h35 rfl rfl rfl (by kernel_rfl) (by kernel_rfl) (by kernel_rfl) (fun a36 h36 => ?_); clear h35
    refine pl_val (v := .bool false) h36 rfl rfl rfl (by kernel_rfl) (by kernel_rfl) (by kernel_rfl) (fun a37 h37 => ?_); clear h36
    refine pl_nil ?_
    refine co_then ?_
    refine wp_ret ?_
    refine co_ret1 h37 rfl rfl ?_
    exact ⟨ret_bool (sameE_n (by omega)), hB18⟩
  ·
    rw [hc29] at h28
    have hp38 : ts = ts2 := by first | simpa using hc29 | simpa [and_assoc] using hc29
    clear hc29
    refine pl_val (v := .pointer (some ⟨N3, 0, none⟩)) h28 rfl rfl rfl (by kernel_rfl) (by kernel_rfl) (by kernel_rfl) (fun a39 h39 => ?_); clear h28
    refine pl_val (v := .agg #[.int .i64 c, .int .i64 r, v]) h39 rfl rfl rfl (by kernel_rfl) (by kernel_rfl) (rn_loadN rfl rfl Try.underlying31 rfl (by kernel_rfl) (blk_part hk21 0 (by rfl))) (fun a40 h40 => ?_); clear h39
    refine pl_val (v := .pointer (some ⟨N13, 0, none⟩)) h40 rfl rfl rfl (by kernel_rfl) (by kernel_rfl) (by kernel_rfl) (fun a41 h41 => ?_); clear h40
    refine pl_val (v := .agg #[.int .i64 c2, .int .i64 r2, v2]) h41 rfl rfl rfl (by kernel_rfl) (by kernel_rfl) (rn_loadN rfl rfl Try.underlying31 rfl (by kernel_rfl) (blk_part hk15 0 (by rfl))) (fun a42 h42 => ?_); clear h41
    refine pl_want h42 rfl rfl rfl (op_call (args := #[.agg #[.int .i64 c, .int .i64 r, v], .agg #[.int .i64 c2, .int .i64 r2, v2]]) (R := fun res xw => res = .bool (sameB c r l c2 r2 l2) ∧ Below w12.heap.size w12 xw) rfl rfl rfl (by kernel_rfl) (by kernel_rfl) (Try.call66 _ _) (ropsSame_any c r v l c2 r2 v2 l2 w12 (hs.below hB18) (hs2.below hB18)) (by rintro e x ⟨rfl, hb45⟩; exact ⟨_, rfl, ⟨rfl, hb45⟩⟩)) ?_; clear h42
    rintro _ w44 a43 ⟨rfl, hb45⟩ h43
    have hB46 := hb_call hB18 hb45
    have hz47 := hB46.size
    have hz48 := hb45.size
    have hk49 := hk21.below hb45
    have hk50 := hk15.below hb45
    refine pl_val (v := .bool (sameB c r l c2 r2 l2)) h43 rfl rfl rfl (by kernel_rfl) (by kernel_rfl) (by kernel_rfl) (fun a51 h51 => ?_); clear h43
    refine pl_val (v := .bool (sameB c r l c2 r2 l2)) h51 rfl rfl rfl (by kernel_rfl) (by kernel_rfl) (by kernel_rfl) (fun a52 h52 => ?_); clear h51
    refine pl_nil ?_
    refine co_then ?_
    refine wp_ret ?_
    refine co_ret1 h52 rfl rfl ?_
    exact ⟨ret_bool (sameE_y (by omega)), hB46⟩
set_option maxRecDepth 100000 in
theorem itemWho_any (c : Int) (r : Int) (v : Value) (ts : Int) (w : World)  :
    Calls Try.prog 67 #[.agg #[.int .i64 c, .int .i64 r, v, .int .u64 ts]] w fun e w' => e = .returned (.agg #[.int .i64 c, .int .i64 r]) ∧ Below w.heap.size w w' := by
  have hB0 := Below.refl w.heap.size w
  refine co_enter (n := 10) Try.func67 rfl rfl rfl [(0, .agg #[.int .i64 c, .int .i64 r, v, .int .u64 ts])] rfl (fun a h0 => ?_)
  refine co_seq ?_
  refine co_reg ?_
  refine pl_want h0 rfl rfl rfl (op_new (v := fun N => .pointer (some ⟨N, 0, none⟩)) (T := 34) (cs := #[.int .i64 c, .int .i64 r, v, .int .u64 ts]) (by kernel_rfl) (by kernel_rfl) (by kernel_rfl)) ?_; clear h0
  rintro _ w2 a1 ⟨N3, rfl, hN6, hz7, hk5, hg4⟩ h1
  have hB8 := hb_new hB0 hg4
  have hz9 := hB8.size
  have hz10 := hg4.size
  try dsimp only at h1
  refine pl_want h1 rfl rfl rfl (op_new (v := fun N => .pointer (some ⟨N, 0, none⟩)) (T := 118) (cs := #[.int .i64 0, .int .i64 0]) (by kernel_rfl) (by kernel_rfl) (by kernel_rfl)) ?_; clear h1
  rintro _ w12 a11 ⟨N13, rfl, hN16, hz17, hk15, hg14⟩ h11
  have hB18 := hb_new hB8 hg14
  have hz19 := hB18.size
  have hz20 := hg14.size
  have hk21 := hk5.kept hg14 (by simp)
  try dsimp only at h11
  refine pl_nil ?_
  refine co_then ?_
  refine co_seq ?_
  refine co_reg ?_
  refine pl_val (v := .pointer (some ⟨N3, 0, none⟩)) h11 rfl rfl rfl (by kernel_rfl) (by kernel_rfl) (by kernel_rfl) (fun a22 h22 => ?_); clear h11
  refine pl_val (v := .pointer (some ⟨N3, 0, none⟩)) h22 rfl rfl rfl (by kernel_rfl) (by kernel_rfl) (by kernel_rfl) (fun a23 h23 => ?_); clear h22
  refine pl_val (v := .int .i64 c) h23 rfl rfl rfl (by kernel_rfl) (by kernel_rfl) (rn_load1 rfl rfl Try.isAgg3 (hk21.cell rfl)) (fun a24 h24 => ?_); clear h23
  refine pl_val (v := .pointer (some ⟨N3, 0, none⟩)) h24 rfl rfl rfl (by kernel_rfl) (by kernel_rfl) (by kernel_rfl) (fun a25 h25 => ?_); clear h24
  refine pl_val (v := .pointer (some ⟨N3, 1, none⟩)) h25 rfl rfl rfl (by kernel_rfl) (by kernel_rfl) (by kernel_rfl) (fun a26 h26 => ?_); clear h25
  refine pl_val (v := .int .i64 r) h26 rfl rfl rfl (by kernel_rfl) (by kernel_rfl) (rn_load1 rfl rfl Try.isAgg3 (hk21.cell rfl)) (fun a27 h27 => ?_); clear h26
  refine pl_val (v := .agg #[.int .i64 c, .int .i64 r]) h27 rfl rfl rfl (by kernel_rfl) (by kernel_rfl) (by kernel_rfl) (fun a28 h28 => ?_); clear h27
  refine pl_doW h28 rfl rfl (op_storeN rfl rfl rfl (by kernel_rfl) (by kernel_rfl) hk15 rfl) ?_; clear h28
  rintro _ w30 a29 ⟨hk31, hz32, hg33⟩ h29
  have hk31' : Blk w30 N13 118 #[.int .i64 c, .int .i64 r] := hk31; clear hk31
  have hB34 := hb_at hB18 hg33 (by omega)
  have hz35 := hB34.size
  have hz36 := hg33.size
  have hk37 := hk21.kept hg33 (by simp; omega)
  refine pl_nil ?_
  refine co_then ?_
  refine wp_ret ?_
  refine co_retC (Q := fun _ _ _ => True) h29 rfl rfl hk31' Try.underlying118 rfl (by kernel_rfl) ?_
  exact ⟨rfl, hB34⟩
set_option maxRecDepth 100000 in
theorem itemTwins_any (c : Int) (r : Int) (v : Value) (ts : Int) (c2 : Int) (r2 : Int) (v2 : Value) (ts2 : Int) (w : World)  :
    Calls Try.prog 25 #[.agg #[.int .i64 c, .int .i64 r, v, .int .u64 ts], .agg #[.int .i64 c2, .int .i64 r2, v2, .int .u64 ts2]] w fun e w' => e = .returned (.bool ((c == (c2 : Int)) && (r == (r2 : Int)))) ∧ Below w.heap.size w w' := by
  have hB0 := Below.refl w.heap.size w
  refine co_enter (n := 10) Try.func25 rfl rfl rfl [(0, .agg #[.int .i64 c, .int .i64 r, v, .int .u64 ts]), (1, .agg #[.int .i64 c2, .int .i64 r2, v2, .int .u64 ts2])] rfl (fun a h0 => ?_)
  refine co_seq ?_
  refine co_reg ?_
  refine pl_want h0 rfl rfl rfl (op_new (v := fun N => .pointer (some ⟨N, 0, none⟩)) (T := 34) (cs := #[.int .i64 c, .int .i64 r, v, .int .u64 ts]) (by kernel_rfl) (by kernel_rfl) (by kernel_rfl)) ?_; clear h0
  rintro _ w2 a1 ⟨N3, rfl, hN6, hz7, hk5, hg4⟩ h1
  have hB8 := hb_new hB0 hg4
  have hz9 := hB8.size
  have hz10 := hg4.size
  try dsimp only at h1
  refine pl_want h1 rfl rfl rfl (op_new (v := fun N => .pointer (some ⟨N, 0, none⟩)) (T := 34) (cs := #[.int .i64 c2, .int .i64 r2, v2, .int .u64 ts2]) (by kernel_rfl) (by kernel_rfl) (by kernel_rfl)) ?_; clear h1
  rintro _ w12 a11 ⟨N13, rfl, hN16, hz17, hk15, hg14⟩ h11
  have hB18 := hb_new hB8 hg14
  have hz19 := hB18.size
  have hz20 := hg14.size
  have hk21 := hk5.kept hg14 (by simp)
  try dsimp only at h11
  refine pl_val (v := .bool false) h11 rfl rfl rfl (by kernel_rfl) (by kernel_rfl) (by kernel_rfl) (fun a22 h22 => ?_); clear h11
  refine pl_nil ?_
  refine co_then ?_
  refine co_seq ?_
  refine dr_gen (fun x => Below w.heap.size w x ∧ Blk x N3 34 #[.int .i64 c, .int .i64 r, v, .int .u64 ts] ∧ Blk x N13 34 #[.int .i64 c2, .int .i64 r2, v2, .int .u64 ts2]) (by kernel_rfl) (fun w23 hg24 => ?_) (fun w23 hg24 => ?_)
  ·
    have hB25 := hb_new hB18 hg24
    have hz26 := hB25.size
    have hz27 := hg24.size
    have hk28 := hk21.kept hg24 (by simp)
    have hk29 := hk15.kept hg24 (by simp)
    exact ⟨hB25, hk28, hk29⟩
  have hB30 := hb_new hB18 hg24
  have hz31 := hB30.size
  have hz32 := hg24.size
  have hk33 := hk21.kept hg24 (by simp)
  have hk34 := hk15.kept hg24 (by simp)
  refine dr_take (i := 0) (v := .agg #[.int .i64 c, .int .i64 r, v, .int .u64 ts]) h22 rfl (by kernel_rfl) (by kernel_rfl) (by kernel_rfl) rfl rfl rfl ⟨hB30, hk33, hk34⟩ (by kernel_rfl) (fun x hx => (rn_loadN rfl rfl Try.underlying34 rfl (by kernel_rfl) hx.2.1.all)) (fun a35 h35 => ?_); clear h22
  refine dr_take (i := 2) (v := .agg #[.int .i64 c2, .int .i64 r2, v2, .int .u64 ts2]) h35 rfl (by kernel_rfl) (by kernel_rfl) (by kernel_rfl) rfl rfl rfl ⟨hB30, hk33, hk34⟩ (by kernel_rfl) (fun x hx => (rn_loadN rfl rfl Try.underlying34 rfl (by kernel_rfl) hx.2.2.all)) (fun a36 h36 => ?_); clear h35
  refine dr_one (i := 1) h36 rfl (by kernel_rfl) rfl rfl rfl (op_call (args := #[.agg #[.int .i64 c, .int .i64 r, v, .int .u64 ts]]) (R := fun res xw => res = .agg #[.int .i64 c, .int .i64 r] ∧ Below w23.heap.size w23 xw) rfl rfl rfl (by kernel_rfl) (by kernel_rfl) (Try.call67 _ _) (itemWho_any c r v ts w23 ) (by rintro e x ⟨rfl, hb39⟩; exact ⟨_, rfl, ⟨rfl, hb39⟩⟩)) ?_ ?_; clear h36
  ·
    rintro _ w38 ⟨rfl, hb39⟩
    have hB40 := hb_call hB30 hb39
    have hz41 := hB40.size
    have hz42 := hb39.size
    have hk43 := hk33.below hb39
    have hk44 := hk34.below hb39
    exact ⟨hB40, hk43, hk44⟩
  rintro _ w38 a37 ⟨rfl, hb39⟩ h37
  have hB40 := hb_call hB30 hb39
  have hz41 := hB40.size
  have hz42 := hb39.size
  have hk43 := hk33.below hb39
  have hk44 := hk34.below hb39
  refine dr_one (i := 3) h37 rfl (by kernel_rfl) rfl rfl rfl (op_call (args := #[.agg #[.int .i64 c2, .int .i64 r2, v2, .int .u64 ts2]]) (R := fun res xw => res = .agg #[.int .i64 c2, .int .i64 r2] ∧ Below w38.heap.size w38 xw) rfl rfl rfl (by kernel_rfl) (by kernel_rfl) (Try.call67 _ _) (itemWho_any c2 r2 v2 ts2 w38 ) (by rintro e x ⟨rfl, hb47⟩; exact ⟨_, rfl, ⟨rfl, hb47⟩⟩)) ?_ ?_; clear h37
  ·
    rintro _ w46 ⟨rfl, hb47⟩
    have hB48 := hb_call hB40 hb47
    have hz49 := hB48.size
    have hz50 := hb47.size
    have hk51 := hk43.below hb47
    have hk52 := hk44.below hb47
    exact ⟨hB48, hk51, hk52⟩
  rintro _ w46 a45 ⟨rfl, hb47⟩ h45
  have hB48 := hb_call hB40 hb47
  have hz49 := hB48.size
  have hz50 := hb47.size
  have hk51 := hk43.below hb47
  have hk52 := hk44.below hb47
  refine dr_take (i := 4) (v := .bool (c == c2 && r == r2)) h45 rfl (by kernel_rfl) (by kernel_rfl) (by kernel_rfl) rfl rfl rfl ⟨hB48, hk51, hk52⟩ (by kernel_rfl) (fun x hx => (rn_eqS rfl rfl rfl Try.eqGuardType118 (eq_arr2 _ _ _ _ _))) (fun a53 h53 => ?_); clear h45
  refine dr_take (i := 5) (v := .bool (c == c2 && r == r2)) h53 rfl (by kernel_rfl) (by kernel_rfl) (by kernel_rfl) rfl rfl rfl ⟨hB48, hk51, hk52⟩ (by kernel_rfl) (fun _ _ => by kernel_rfl) (fun a54 h54 => ?_); clear h53
  refine dr_done (by kernel_rfl) ?_
  refine co_then ?_
  refine wp_ret ?_
  refine co_ret1 h54 rfl rfl ?_
  exact ⟨ret_bool (by first | rfl | simp_all), hB48⟩
set_option maxRecDepth 100000 in
theorem ritemTwins_any (c : Int) (r : Int) (v : Value) (ts : Int) (c2 : Int) (r2 : Int) (v2 : Value) (ts2 : Int) (w : World)  :
    Calls Try.prog 26 #[.agg #[.int .i64 c, .int .i64 r, v, .int .u64 ts], .agg #[.int .i64 c2, .int .i64 r2, v2, .int .u64 ts2]] w fun e w' => e = .returned (.bool ((c == (c2 : Int)) && (r == (r2 : Int)))) ∧ Below w.heap.size w w' := by
  have hB0 := Below.refl w.heap.size w
  refine co_enter (n := 21) Try.func26 rfl rfl rfl [(0, .agg #[.int .i64 c, .int .i64 r, v, .int .u64 ts]), (1, .agg #[.int .i64 c2, .int .i64 r2, v2, .int .u64 ts2])] rfl (fun a h0 => ?_)
  refine co_seq ?_
  refine co_reg ?_
  refine pl_want h0 rfl rfl rfl (op_new (v := fun N => .pointer (some ⟨N, 0, none⟩)) (T := 34) (cs := #[.int .i64 c, .int .i64 r, v, .int .u64 ts]) (by kernel_rfl) (by kernel_rfl) (by kernel_rfl)) ?_; clear h0
  rintro _ w2 a1 ⟨N3, rfl, hN6, hz7, hk5, hg4⟩ h1
  have hB8 := hb_new hB0 hg4
  have hz9 := hB8.size
  have hz10 := hg4.size
  try dsimp only at h1
  refine pl_want h1 rfl rfl rfl (op_new (v := fun N => .pointer (some ⟨N, 0, none⟩)) (T := 34) (cs := #[.int .i64 c2, .int .i64 r2, v2, .int .u64 ts2]) (by kernel_rfl) (by kernel_rfl) (by kernel_rfl)) ?_; clear h1
  rintro _ w12 a11 ⟨N13, rfl, hN16, hz17, hk15, hg14⟩ h11
  have hB18 := hb_new hB8 hg14
  have hz19 := hB18.size
  have hz20 := hg14.size
  have hk21 := hk5.kept hg14 (by simp)
  try dsimp only at h11
  refine pl_val (v := .bool false) h11 rfl rfl rfl (by kernel_rfl) (by kernel_rfl) (by kernel_rfl) (fun a22 h22 => ?_); clear h11
  refine pl_nil ?_
  refine co_then ?_
  refine co_seq ?_
  refine co_reg ?_
  refine pl_val (v := .pointer (some ⟨N3, 0, none⟩)) h22 rfl rfl rfl (by kernel_rfl) (by kernel_rfl) (by kernel_rfl) (fun a23 h23 => ?_); clear h22
  refine pl_val (v := .pointer (some ⟨N3, 0, none⟩)) h23 rfl rfl rfl (by kernel_rfl) (by kernel_rfl) (by kernel_rfl) (fun a24 h24 => ?_); clear h23
  refine pl_val (v := .int .i64 c) h24 rfl rfl rfl (by kernel_rfl) (by kernel_rfl) (rn_load1 rfl rfl Try.isAgg3 (hk21.cell rfl)) (fun a25 h25 => ?_); clear h24
  refine pl_val (v := .pointer (some ⟨N13, 0, none⟩)) h25 rfl rfl rfl (by kernel_rfl) (by kernel_rfl) (by kernel_rfl) (fun a26 h26 => ?_); clear h25
  refine pl_val (v := .pointer (some ⟨N13, 0, none⟩)) h26 rfl rfl rfl (by kernel_rfl) (by kernel_rfl) (by kernel_rfl) (fun a27 h27 => ?_); clear h26
  refine pl_val (v := .int .i64 c2) h27 rfl rfl rfl (by kernel_rfl) (by kernel_rfl) (rn_load1 rfl rfl Try.isAgg3 (hk15.cell rfl)) (fun a28 h28 => ?_); clear h27
  refine pl_val (v := .bool (c == c2)) h28 rfl rfl rfl (by kernel_rfl) (by kernel_rfl) (by kernel_rfl) (fun a29 h29 => ?_); clear h28
  refine pl_val (v := .bool (c == c2)) h29 rfl rfl rfl (by kernel_rfl) (by kernel_rfl) (by kernel_rfl) (fun a30 h30 => ?_); clear h29
  cases hc31 : (c == c2)
  ·
    rw [hc31] at h30
    have hp32 : ¬ (c = c2) := by first | simpa using hc31 | simpa [and_assoc] using hc31
    clear hc31
    refine pl_skip h30 rfl rfl rfl (fun a33 h33 => ?_); clear h30
    refine pl_skip h33 rfl rfl rfl (fun a34 h34 => ?_); clear h33
    refine pl_skip h34 rfl rfl rfl (fun a35 h35 => ?_); clear h34
    refine pl_skip h35 rfl rfl rfl (fun a36 h36 => ?_); clear h35
    refine pl_skip h36 rfl rfl rfl (fun a37 h37 => ?_); clear h36
    refine pl_skip h37 rfl rfl rfl (fun a38 h38 => ?_); clear h37
    refine pl_skip h38 rfl rfl rfl (fun a39 h39 => ?_); clear h38
    refine pl_val (v := .bool false) h39 rfl rfl rfl (by kernel_rfl) (by kernel_rfl) (by kernel_rfl) (fun a40 h40 => ?_); clear h39
    refine pl_val (v := .bool false) h40 rfl rfl rfl (by kernel_rfl) (by kernel_rfl) (by kernel_rfl) (fun a41 h41 => ?_); clear h40
    refine pl_nil ?_
    refine co_then ?_
    refine wp_ret ?_
    refine co_ret1 h41 rfl rfl ?_
    exact ⟨ret_bool (by first | rfl | simp_all), hB18⟩
  ·
    rw [hc31] at h30
    have hp42 : c = c2 := by first | simpa using hc31 | simpa [and_assoc] using hc31
    clear hc31
    refine pl_val (v := .pointer (some ⟨N3, 0, none⟩)) h30 rfl rfl rfl (by kernel_rfl) (by kernel_rfl) (by kernel_rfl) (fun a43 h43 => ?_); clear h30
    refine pl_val (v := .pointer (some ⟨N3, 1, none⟩)) h43 rfl rfl rfl (by kernel_rfl) (by kernel_rfl) (by kernel_rfl) (fun a44 h44 => ?_); clear h43
    refine pl_val (v := .int .i64 r) h44 rfl rfl rfl (by kernel_rfl) (by kernel_rfl) (rn_load1 rfl rfl Try.isAgg3 (hk21.cell rfl)) (fun a45 h45 => ?_); clear h44
    refine pl_val (v := .pointer (some ⟨N13, 0, none⟩)) h45 rfl rfl rfl (by kernel_rfl) (by kernel_rfl) (by kernel_rfl) (fun a46 h46 => ?_); clear h45
    refine pl_val (v := .pointer (some ⟨N13, 1, none⟩)) h46 rfl rfl rfl (by kernel_rfl) (by kernel_rfl) (by kernel_rfl) (fun a47 h47 => ?_); clear h46
    refine pl_val (v := .int .i64 r2) h47 rfl rfl rfl (by kernel_rfl) (by kernel_rfl) (rn_load1 rfl rfl Try.isAgg3 (hk15.cell rfl)) (fun a48 h48 => ?_); clear h47
    refine pl_val (v := .bool (r == r2)) h48 rfl rfl rfl (by kernel_rfl) (by kernel_rfl) (by kernel_rfl) (fun a49 h49 => ?_); clear h48
    refine pl_val (v := .bool (r == r2)) h49 rfl rfl rfl (by kernel_rfl) (by kernel_rfl) (by kernel_rfl) (fun a50 h50 => ?_); clear h49
    refine pl_val (v := .bool (r == r2)) h50 rfl rfl rfl (by kernel_rfl) (by kernel_rfl) (by kernel_rfl) (fun a51 h51 => ?_); clear h50
    refine pl_nil ?_
    refine co_then ?_
    refine wp_ret ?_
    refine co_ret1 h51 rfl rfl ?_
    exact ⟨ret_bool (by first | rfl | simp_all), hB18⟩
set_option maxRecDepth 100000 in
theorem itemOf_any (s : ByteArray) (c : Int) (r : Int) (l : List OpT) (ts : Int) (x : Int) (w : World) (hsz : s.size ≤ 9223372036854775807) (hof : ofE s = ((c, r, l, ts), x)) :
    Calls Try.prog 27 #[.string s] w fun e w' => ∃ (u : Value), e = .returned (.tuple #[.agg #[.int .i64 c, .int .i64 r, u, .int .u64 ts], .int .i64 x]) ∧ w'.ownsRow w.heap.size 86 3 u l.length (l.flatMap opE) ∧ Below w.heap.size w w' := by
  have hB0 := Below.refl w.heap.size w
  refine co_enter (n := 34) Try.func27 rfl rfl rfl [(0, .string s)] rfl (fun a h0 => ?_)
  refine co_seq ?_
  refine co_reg ?_
  refine pl_want h0 rfl rfl rfl (op_new (v := fun N => .pointer (some ⟨N, 0, none⟩)) (T := 34) (cs := #[.int .i64 0, .int .i64 0, .slice none 0 0, .int .u64 0]) (by kernel_rfl) (by kernel_rfl) (by kernel_rfl)) ?_; clear h0
  rintro _ w2 a1 ⟨N3, rfl, hN6, hz7, hk5, hg4⟩ h1
  have hB8 := hb_new hB0 hg4
  have hz9 := hB8.size
  have hz10 := hg4.size
  try dsimp only at h1
  refine pl_val (v := .int .i64 0) h1 rfl rfl rfl (by kernel_rfl) (by kernel_rfl) (by kernel_rfl) (fun a11 h11 => ?_); clear h1
  refine pl_nil ?_
  refine co_then ?_
  refine co_seq ?_
  refine co_reg ?_
  refine pl_val (v := .string s) h11 rfl rfl rfl (by kernel_rfl) (by kernel_rfl) (by kernel_rfl) (fun a12 h12 => ?_); clear h11
  refine pl_want h12 rfl rfl rfl (op_call (args := #[.string s]) (R := fun res xw => ∃ b : Nat, res = .pointer (some ⟨b, 0, none⟩) ∧ b = w2.heap.size ∧ OR b s 0 0 xw ∧ Below w2.heap.size w2 xw) rfl rfl rfl (by kernel_rfl) (by kernel_rfl) (Try.call68 _ _) (or_open s w2) (by rintro e x ⟨b, rfl, h0, h1, h2⟩; exact ⟨_, rfl, b, rfl, h0, h1, h2⟩)) ?_; clear h12
  rintro _ w14 a13 ⟨b15, rfl, hN16, ho17, hb18⟩ h13
  have hB19 := hb_call hB8 hb18
  have hz20 := hB19.size
  have hz21 := hb18.size
  have hk22 := hk5.below hb18
  have hl23 := ho17.lt
  refine pl_val (v := .pointer (some ⟨b15, 0, none⟩)) h13 rfl rfl rfl (by kernel_rfl) (by kernel_rfl) (by kernel_rfl) (fun a24 h24 => ?_); clear h13
  refine pl_nil ?_
  refine co_then ?_
  refine co_seq ?_
  refine co_reg ?_
  refine pl_val (v := .pointer (some ⟨b15, 0, none⟩)) h24 rfl rfl rfl (by kernel_rfl) (by kernel_rfl) (by kernel_rfl) (fun a25 h25 => ?_); clear h24
  refine pl_want h25 rfl rfl rfl (op_call (args := #[.pointer (some ⟨b15, 0, none⟩)]) (R := fun res xw => ∃ (n : Int) (a' e' : Int), res = .int .u64 n ∧ bigR s 0 0 = (n, a', e') ∧ 0 ≤ n ∧ n < 18446744073709551616 ∧ OR b15 s a' e' xw ∧ w14.grownBy xw (some b15)) rfl rfl rfl (by kernel_rfl) (by kernel_rfl) (Try.call69 _ _) (or_big b15 s 0 0 w14 ho17 (by omega)) (by rintro q x ⟨n, a', e', rfl, h0, k0, k1, h1, h2⟩; exact ⟨_, rfl, n, a', e', rfl, h0, k0, k1, h1, h2⟩)) ?_; clear h25
  rintro _ w27 a26 ⟨n28, a29, e30, rfl, hq31, hn32, hm33, ho34, hg35⟩ h26
  have hB36 := hb_at hB19 hg35 (by omega)
  have hz37 := hB36.size
  have hz38 := hg35.size
  have hk39 := hk22.kept hg35 (by simp; omega)
  have hl40 := ho34.lt
  refine pl_val (v := .pointer (some ⟨b15, 0, none⟩)) h26 rfl rfl rfl (by kernel_rfl) (by kernel_rfl) (by kernel_rfl) (fun a41 h41 => ?_); clear h26
  refine pl_want h41 rfl rfl rfl (op_call (args := #[.pointer (some ⟨b15, 0, none⟩), .int .i64 65536]) (R := fun res xw => ∃ (n : ByteArray) (a' e' : Int), res = .string n ∧ textR s a29 e30 65536 = (n, a', e') ∧ (n.size : Int) ≤ 65536 ∧ OR b15 s a' e' xw ∧ w27.grownBy xw (some b15)) rfl rfl rfl (by kernel_rfl) (by kernel_rfl) (Try.call70 _ _) (or_text b15 s a29 e30 65536 w27 ho34 (by omega) (by omega) (by omega)) (by rintro q x ⟨n, a', e', rfl, h0, k0, h1, h2⟩; exact ⟨_, rfl, n, a', e', rfl, h0, k0, h1, h2⟩)) ?_; clear h41
  rintro _ w43 a42 ⟨n44, a45, e46, rfl, hq47, hn48, ho50, hg51⟩ h42
  have hB52 := hb_at hB36 hg51 (by omega)
  have hz53 := hB52.size
  have hz54 := hg51.size
  have hk55 := hk39.kept hg51 (by simp; omega)
  have hl56 := ho50.lt
  refine pl_val (v := .int .u64 n28) h42 rfl rfl rfl (by kernel_rfl) (by kernel_rfl) (by kernel_rfl) (fun a57 h57 => ?_); clear h42
  refine pl_val (v := .string n44) h57 rfl rfl rfl (by kernel_rfl) (by kernel_rfl) (by kernel_rfl) (fun a58 h58 => ?_); clear h57
  refine pl_nil ?_
  refine co_then ?_
  refine co_seq ?_
  refine co_seq ?_
  refine co_reg ?_
  refine pl_val (v := .pointer (some ⟨b15, 0, none⟩)) h58 rfl rfl rfl (by kernel_rfl) (by kernel_rfl) (by kernel_rfl) (fun a59 h59 => ?_); clear h58
  refine pl_want h59 rfl rfl rfl (op_call (args := #[.pointer (some ⟨b15, 0, none⟩)]) (R := fun res xw => ∃ r : Int, res = .int .i64 r ∧ endV s a45.toNat e46 = r ∧ Below w43.heap.size w43 xw) rfl rfl rfl (by kernel_rfl) (by kernel_rfl) (Try.call71 _ _) (or_end b15 s a45 e46 w43 ho50 (by omega)) (by rintro e x ⟨r, rfl, h0, h2⟩; exact ⟨_, rfl, r, rfl, h0, h2⟩)) ?_; clear h59
  rintro _ w61 a60 ⟨r62, rfl, hq63, hb64⟩ h60
  have hB65 := hb_call hB52 hb64
  have hz66 := hB65.size
  have hz67 := hb64.size
  have hk68 := hk55.below hb64
  have ho69 := ho50.below hb64
  refine pl_val (v := .int .i64 r62) h60 rfl rfl rfl (by kernel_rfl) (by kernel_rfl) (by kernel_rfl) (fun a70 h70 => ?_); clear h60
  refine pl_nil ?_
  refine co_then ?_
  refine co_seq ?_
  refine co_reg ?_
  refine pl_val (v := .int .i64 r62) h70 rfl rfl rfl (by kernel_rfl) (by kernel_rfl) (by kernel_rfl) (fun a71 h71 => ?_); clear h70
  refine pl_val (v := .bool (r62 != 0)) h71 rfl rfl rfl (by kernel_rfl) (by kernel_rfl) (by kernel_rfl) (fun a72 h72 => ?_); clear h71
  refine pl_nil ?_
  refine co_then ?_
  cases hc73 : (r62 != 0)
  ·
    rw [hc73] at h72
    have hp74 : ¬ (r62 ≠ 0) := by first | simpa using hc73 | simpa [and_assoc] using hc73
    clear hc73
    refine co_false h72 rfl ?_
    refine wp_skip ?_
    refine co_then ?_
    refine co_seq ?_
    refine co_reg ?_
    refine pl_val (v := .string n44) h72 rfl rfl rfl (by kernel_rfl) (by kernel_rfl) (by kernel_rfl) (fun a75 h75 => ?_); clear h72
    refine pl_want h75 rfl rfl rfl (op_call (args := #[.string n44]) (R := fun res xw => ∃ u : Value, res = .tuple #[.agg #[.int .i64 ((ofB n44).1.1), .int .i64 ((ofB n44).1.2.1), u], .int .i64 ((ofB n44).2)] ∧ xw.ownsRow w61.heap.size 86 3 u ((ofB n44).1.2.2).length (((ofB n44).1.2.2).flatMap opE) ∧ Below w61.heap.size w61 xw) rfl rfl rfl (by kernel_rfl) (by kernel_rfl) (Try.call72 _ _) (opsOf_any n44 ((ofB n44).1.1) ((ofB n44).1.2.1) ((ofB n44).1.2.2) ((ofB n44).2) w61 (by first | omega | (simp; done) | (simp; omega)) rfl) (by rintro e x ⟨u, rfl, hq79, hb80⟩; exact ⟨_, rfl, ⟨u, rfl, hq79, hb80⟩⟩)) ?_; clear h75
    rintro _ w77 a76 ⟨u78, rfl, hq79, hb80⟩ h76
    have hB81 := hb_call hB65 hb80
    have hz82 := hB81.size
    have hz83 := hb80.size
    have hk84 := hk68.below hb80
    have ho85 := ho69.below hb80
    have hl86 := sl_len (row_sl hq79 opE_len)
    refine pl_val (v := .tuple #[.agg #[.int .i64 ((ofB n44).1.1), .int .i64 ((ofB n44).1.2.1), u78], .int .i64 ((ofB n44).2)]) h76 rfl rfl rfl (by kernel_rfl) (by kernel_rfl) (by kernel_rfl) (fun a87 h87 => ?_); clear h76
    refine pl_val (v := .agg #[.int .i64 ((ofB n44).1.1), .int .i64 ((ofB n44).1.2.1), u78]) h87 rfl rfl rfl (by kernel_rfl) (by kernel_rfl) (by kernel_rfl) (fun a88 h88 => ?_); clear h87
    refine pl_val (v := .int .i64 ((ofB n44).2)) h88 rfl rfl rfl (by kernel_rfl) (by kernel_rfl) (by kernel_rfl) (fun a89 h89 => ?_); clear h88
    refine pl_want h89 rfl rfl rfl (op_new (v := fun N => .pointer (some ⟨N, 0, none⟩)) (T := 31) (cs := #[.int .i64 0, .int .i64 0, .slice none 0 0]) (by kernel_rfl) (by kernel_rfl) (by kernel_rfl)) ?_; clear h89
    rintro _ w91 a90 ⟨N92, rfl, hN95, hz96, hk94, hg93⟩ h90
    have ha97 := row_fresh hq79 hN95
    have hB98 := hb_new hB81 hg93
    have hz99 := hB98.size
    have hz100 := hg93.size
    have hk101 := hk84.kept hg93 (by simp)
    have ho102 := ho85.new hg93
    have hr103 := row_kept_new hq79 hg93
    try dsimp only at h90
    refine pl_doW h90 rfl rfl (op_storeN rfl rfl rfl (all_cons rfl (all_cons rfl (all_cons (row_one hr103) all_nil))) (by kernel_rfl) hk94 rfl) ?_; clear h90
    rintro _ w105 a104 ⟨hk106, hz107, hg108⟩ h104
    have hk106' : Blk w105 N92 31 #[.int .i64 ((ofB n44).1.1), .int .i64 ((ofB n44).1.2.1), u78] := hk106; clear hk106
    have hB109 := hb_at hB98 hg108 (by omega)
    have hz110 := hB109.size
    have hz111 := hg108.size
    have hk112 := hk101.kept hg108 (by simp; omega)
    have ho113 := ho102.at (by omega) hg108
    have hr114 := row_kept_at hr103 hg108 (ha97)
    refine pl_val (v := .int .i64 ((ofB n44).2)) h104 rfl rfl rfl (by kernel_rfl) (by kernel_rfl) (by kernel_rfl) (fun a115 h115 => ?_); clear h104
    refine pl_nil ?_
    refine co_then ?_
    refine co_seq ?_
    refine co_seq ?_
    refine co_reg ?_
    refine pl_val (v := .int .i64 ((ofB n44).2)) h115 rfl rfl rfl (by kernel_rfl) (by kernel_rfl) (by kernel_rfl) (fun a116 h116 => ?_); clear h115
    refine pl_val (v := .bool (((ofB n44).2) != 0)) h116 rfl rfl rfl (by kernel_rfl) (by kernel_rfl) (by kernel_rfl) (fun a117 h117 => ?_); clear h116
    refine pl_nil ?_
    refine co_then ?_
    cases hc118 : (((ofB n44).2) != 0)
    ·
      rw [hc118] at h117
      have hp119 : ¬ (((ofB n44).2) ≠ 0) := by first | simpa using hc118 | simpa [and_assoc] using hc118
      clear hc118
      refine co_false h117 rfl ?_
      refine wp_skip ?_
      refine co_then ?_
      refine co_seq ?_
      refine co_reg ?_
      refine pl_val (v := .agg #[.int .i64 ((ofB n44).1.1), .int .i64 ((ofB n44).1.2.1), u78]) h117 rfl rfl rfl (by kernel_rfl) (by kernel_rfl) (rn_loadN rfl rfl Try.underlying31 rfl (by kernel_rfl) hk106'.all) (fun a120 h120 => ?_); clear h117
      refine pl_val (v := .int .u64 n28) h120 rfl rfl rfl (by kernel_rfl) (by kernel_rfl) (by kernel_rfl) (fun a121 h121 => ?_); clear h120
      refine pl_val (v := .agg #[.int .i64 ((ofB n44).1.1), .int .i64 ((ofB n44).1.2.1), u78, .int .u64 n28]) h121 rfl rfl rfl (by kernel_rfl) (by kernel_rfl) (by kernel_rfl) (fun a122 h122 => ?_); clear h121
      refine pl_doW h122 rfl rfl (op_storeN rfl rfl rfl (all_cons rfl (all_cons rfl (all_cons (row_one hr114) (all_cons rfl all_nil)))) (by kernel_rfl) hk112 rfl) ?_; clear h122
      rintro _ w124 a123 ⟨hk125, hz126, hg127⟩ h123
      have hk125' : Blk w124 N3 34 #[.int .i64 ((ofB n44).1.1), .int .i64 ((ofB n44).1.2.1), u78, .int .u64 n28] := hk125; clear hk125
      have hB128 := hb_at hB109 hg127 (by omega)
      have hz129 := hB128.size
      have hz130 := hg127.size
      have ho131 := ho113.at (by omega) hg127
      have hr132 := row_kept_at hr114 hg127 (row_ne_lt hr114 (by omega))
      have hk133 := hk106'.kept hg127 (by simp; omega)
      refine pl_val (v := .int .i64 0) h123 rfl rfl rfl (by kernel_rfl) (by kernel_rfl) (by kernel_rfl) (fun a134 h134 => ?_); clear h123
      refine pl_nil ?_
      refine co_then ?_
      refine wp_ret ?_
      refine co_retC1 (Q := fun _ _ _ => True) h134 rfl rfl rfl hk125' Try.underlying34 rfl (by kernel_rfl) ?_
      cases hof.symm.trans ((ofE_at hq31 hq47 hq63).trans (ofEndE_c (by assumption) (by assumption)))
      exact ⟨_, rfl, (row_lows hr132 (by omega)), hB128⟩
    ·
      rw [hc118] at h117
      have hp135 : ((ofB n44).2) ≠ 0 := by first | simpa using hc118 | simpa [and_assoc] using hc118
      clear hc118
      refine co_true h117 rfl ?_
      refine co_seq ?_
      refine co_reg ?_
      refine pl_val (v := .agg #[.int .i64 0, .int .i64 0, .slice none 0 0, .int .u64 0]) h117 rfl rfl rfl (by kernel_rfl) (by kernel_rfl) (by kernel_rfl) (fun a136 h136 => ?_); clear h117
      refine pl_val (v := .int .i64 ((ofB n44).2)) h136 rfl rfl rfl (by kernel_rfl) (by kernel_rfl) (by kernel_rfl) (fun a137 h137 => ?_); clear h136
      refine pl_doW h137 rfl rfl (op_storeN rfl rfl rfl (all_cons rfl (all_cons rfl (all_cons rfl (all_cons rfl all_nil)))) (by kernel_rfl) hk112 rfl) ?_; clear h137
      rintro _ w139 a138 ⟨hk140, hz141, hg142⟩ h138
      have hk140' : Blk w139 N3 34 #[.int .i64 0, .int .i64 0, .slice none 0 0, .int .u64 0] := hk140; clear hk140
      have hB143 := hb_at hB109 hg142 (by omega)
      have hz144 := hB143.size
      have hz145 := hg142.size
      have ho146 := ho113.at (by omega) hg142
      have hr147 := row_kept_at hr114 hg142 (row_ne_lt hr114 (by omega))
      have hk148 := hk106'.kept hg142 (by simp; omega)
      refine pl_val (v := .int .i64 ((ofB n44).2)) h138 rfl rfl rfl (by kernel_rfl) (by kernel_rfl) (by kernel_rfl) (fun a149 h149 => ?_); clear h138
      refine pl_nil ?_
      refine co_then ?_
      refine wp_ret ?_
      refine co_thenR ?_
      refine co_retC1 (Q := fun _ _ _ => True) h149 rfl rfl rfl hk140' Try.underlying34 rfl (by kernel_rfl) ?_
      cases hof.symm.trans ((ofE_at hq31 hq47 hq63).trans (ofEndE_b (by assumption) (by assumption)))
      exact ⟨_, rfl, (row_nilL _ _ _ _ _), hB143⟩
  ·
    rw [hc73] at h72
    have hp150 : r62 ≠ 0 := by first | simpa using hc73 | simpa [and_assoc] using hc73
    clear hc73
    refine co_true h72 rfl ?_
    refine co_seq ?_
    refine co_reg ?_
    refine pl_val (v := .agg #[.int .i64 0, .int .i64 0, .slice none 0 0, .int .u64 0]) h72 rfl rfl rfl (by kernel_rfl) (by kernel_rfl) (by kernel_rfl) (fun a151 h151 => ?_); clear h72
    refine pl_val (v := .int .i64 r62) h151 rfl rfl rfl (by kernel_rfl) (by kernel_rfl) (by kernel_rfl) (fun a152 h152 => ?_); clear h151
    refine pl_doW h152 rfl rfl (op_storeN rfl rfl rfl (all_cons rfl (all_cons rfl (all_cons rfl (all_cons rfl all_nil)))) (by kernel_rfl) hk68 rfl) ?_; clear h152
    rintro _ w154 a153 ⟨hk155, hz156, hg157⟩ h153
    have hk155' : Blk w154 N3 34 #[.int .i64 0, .int .i64 0, .slice none 0 0, .int .u64 0] := hk155; clear hk155
    have hB158 := hb_at hB65 hg157 (by omega)
    have hz159 := hB158.size
    have hz160 := hg157.size
    have ho161 := ho69.at (by omega) hg157
    refine pl_val (v := .int .i64 r62) h153 rfl rfl rfl (by kernel_rfl) (by kernel_rfl) (by kernel_rfl) (fun a162 h162 => ?_); clear h153
    refine pl_nil ?_
    refine co_then ?_
    refine wp_ret ?_
    refine co_thenR ?_
    refine co_retC1 (Q := fun _ _ _ => True) h162 rfl rfl rfl hk155' Try.underlying34 rfl (by kernel_rfl) ?_
    cases hof.symm.trans ((ofE_at hq31 hq47 hq63).trans (ofEndE_a (by assumption)))
    exact ⟨_, rfl, (row_nilL _ _ _ _ _), hB158⟩
set_option maxRecDepth 100000 in
theorem ritemOf_any (s : ByteArray) (c : Int) (r : Int) (l : List OpT) (ts : Int) (x : Int) (w : World) (hsz : s.size ≤ 9223372036854775807) (hof : ofE s = ((c, r, l, ts), x)) :
    Calls Try.prog 28 #[.string s] w fun e w' => ∃ (u : Value), e = .returned (.tuple #[.agg #[.int .i64 c, .int .i64 r, u, .int .u64 ts], .int .i64 x]) ∧ w'.ownsRow w.heap.size 86 3 u l.length (l.flatMap opE) ∧ Below w.heap.size w w' := by
  have hB0 := Below.refl w.heap.size w
  refine co_enter (n := 35) Try.func28 rfl rfl rfl [(0, .string s)] rfl (fun a h0 => ?_)
  refine co_seq ?_
  refine co_reg ?_
  refine pl_want h0 rfl rfl rfl (op_new (v := fun N => .pointer (some ⟨N, 0, none⟩)) (T := 34) (cs := #[.int .i64 0, .int .i64 0, .slice none 0 0, .int .u64 0]) (by kernel_rfl) (by kernel_rfl) (by kernel_rfl)) ?_; clear h0
  rintro _ w2 a1 ⟨N3, rfl, hN6, hz7, hk5, hg4⟩ h1
  have hB8 := hb_new hB0 hg4
  have hz9 := hB8.size
  have hz10 := hg4.size
  try dsimp only at h1
  refine pl_val (v := .int .i64 0) h1 rfl rfl rfl (by kernel_rfl) (by kernel_rfl) (by kernel_rfl) (fun a11 h11 => ?_); clear h1
  refine pl_nil ?_
  refine co_then ?_
  refine co_seq ?_
  refine co_reg ?_
  refine pl_val (v := .string s) h11 rfl rfl rfl (by kernel_rfl) (by kernel_rfl) (by kernel_rfl) (fun a12 h12 => ?_); clear h11
  refine pl_val (v := .agg #[.string s, .int .i64 0, .int .i64 0]) h12 rfl rfl rfl (by kernel_rfl) (by kernel_rfl) (by kernel_rfl) (fun a13 h13 => ?_); clear h12
  refine pl_want h13 rfl rfl rfl (op_new (v := fun N => .pointer (some ⟨N, 0, none⟩)) (T := 129) (cs := #[.string s, .int .i64 0, .int .i64 0]) (by kernel_rfl) (by kernel_rfl) (by kernel_rfl)) ?_; clear h13
  rintro _ w15 a14 ⟨N16, rfl, hN19, hz20, hk18, hg17⟩ h14
  have hB21 := hb_new hB8 hg17
  have hz22 := hB21.size
  have hz23 := hg17.size
  have hk24 := hk5.kept hg17 (by simp)
  try dsimp only at h14
  refine pl_val (v := .pointer (some ⟨N16, 0, none⟩)) h14 rfl rfl rfl (by kernel_rfl) (by kernel_rfl) (by kernel_rfl) (fun a25 h25 => ?_); clear h14
  refine pl_nil ?_
  refine co_then ?_
  refine co_seq ?_
  refine co_reg ?_
  refine pl_val (v := .pointer (some ⟨N16, 0, none⟩)) h25 rfl rfl rfl (by kernel_rfl) (by kernel_rfl) (by kernel_rfl) (fun a26 h26 => ?_); clear h25
  have ho29 := oxr_of hk18
  refine pl_want h26 rfl rfl rfl (op_call (args := #[.pointer (some ⟨N16, 0, none⟩)]) (R := fun res xw => ∃ (n : Int) (a' e' : Int), res = .int .u64 n ∧ bigR s 0 0 = (n, a', e') ∧ 0 ≤ n ∧ n < 18446744073709551616 ∧ OXR N16 s a' e' xw ∧ w15.grownBy xw (some N16)) rfl rfl rfl (by kernel_rfl) (by kernel_rfl) (Try.call73 _ _) (oxr_big N16 s 0 0 w15 ho29 (by omega)) (by rintro q x ⟨n, a', e', rfl, h0, k0, k1, h1, h2⟩; exact ⟨_, rfl, n, a', e', rfl, h0, k0, k1, h1, h2⟩)) ?_; clear h26
  rintro _ w28 a27 ⟨n30, a31, e32, rfl, hq33, hn34, hm35, ho36, hg37⟩ h27
  have hB38 := hb_at hB21 hg37 (by omega)
  have hz39 := hB38.size
  have hz40 := hg37.size
  have hk41 := hk24.kept hg37 (by simp; omega)
  have hl42 := ho36.lt
  refine pl_val (v := .int .u64 n30) h27 rfl rfl rfl (by kernel_rfl) (by kernel_rfl) (by kernel_rfl) (fun a43 h43 => ?_); clear h27
  refine pl_nil ?_
  refine co_then ?_
  refine co_seq ?_
  refine co_reg ?_
  refine pl_val (v := .pointer (some ⟨N16, 0, none⟩)) h43 rfl rfl rfl (by kernel_rfl) (by kernel_rfl) (by kernel_rfl) (fun a44 h44 => ?_); clear h43
  refine pl_want h44 rfl rfl rfl (op_call (args := #[.pointer (some ⟨N16, 0, none⟩), .int .i64 65536]) (R := fun res xw => ∃ (n : ByteArray) (a' e' : Int), res = .string n ∧ textR s a31 e32 65536 = (n, a', e') ∧ (n.size : Int) ≤ 65536 ∧ OXR N16 s a' e' xw ∧ w28.grownBy xw (some N16)) rfl rfl rfl (by kernel_rfl) (by kernel_rfl) (Try.call74 _ _) (oxr_text N16 s a31 e32 65536 w28 ho36 (by omega) (by omega) (by omega)) (by rintro q x ⟨n, a', e', rfl, h0, k0, h1, h2⟩; exact ⟨_, rfl, n, a', e', rfl, h0, k0, h1, h2⟩)) ?_; clear h44
  rintro _ w46 a45 ⟨n47, a48, e49, rfl, hq50, hn51, ho53, hg54⟩ h45
  have hB55 := hb_at hB38 hg54 (by omega)
  have hz56 := hB55.size
  have hz57 := hg54.size
  have hk58 := hk41.kept hg54 (by simp; omega)
  have hl59 := ho53.lt
  refine pl_val (v := .string n47) h45 rfl rfl rfl (by kernel_rfl) (by kernel_rfl) (by kernel_rfl) (fun a60 h60 => ?_); clear h45
  refine pl_nil ?_
  refine co_then ?_
  refine co_seq ?_
  refine co_seq ?_
  refine co_reg ?_
  refine pl_val (v := .pointer (some ⟨N16, 0, none⟩)) h60 rfl rfl rfl (by kernel_rfl) (by kernel_rfl) (by kernel_rfl) (fun a61 h61 => ?_); clear h60
  refine pl_want h61 rfl rfl rfl (op_call (args := #[.pointer (some ⟨N16, 0, none⟩)]) (R := fun res xw => ∃ r : Int, res = .int .i64 r ∧ endV s a48.toNat e49 = r ∧ Below w46.heap.size w46 xw) rfl rfl rfl (by kernel_rfl) (by kernel_rfl) (Try.call75 _ _) (oxr_end N16 s a48 e49 w46 ho53 (by omega)) (by rintro e x ⟨r, rfl, h0, h2⟩; exact ⟨_, rfl, r, rfl, h0, h2⟩)) ?_; clear h61
  rintro _ w63 a62 ⟨r64, rfl, hq65, hb66⟩ h62
  have hB67 := hb_call hB55 hb66
  have hz68 := hB67.size
  have hz69 := hb66.size
  have hk70 := hk58.below hb66
  have ho71 := ho53.below hb66
  refine pl_val (v := .int .i64 r64) h62 rfl rfl rfl (by kernel_rfl) (by kernel_rfl) (by kernel_rfl) (fun a72 h72 => ?_); clear h62
  refine pl_nil ?_
  refine co_then ?_
  refine co_seq ?_
  refine co_reg ?_
  refine pl_val (v := .int .i64 r64) h72 rfl rfl rfl (by kernel_rfl) (by kernel_rfl) (by kernel_rfl) (fun a73 h73 => ?_); clear h72
  refine pl_val (v := .bool (r64 != 0)) h73 rfl rfl rfl (by kernel_rfl) (by kernel_rfl) (by kernel_rfl) (fun a74 h74 => ?_); clear h73
  refine pl_nil ?_
  refine co_then ?_
  cases hc75 : (r64 != 0)
  ·
    rw [hc75] at h74
    have hp76 : ¬ (r64 ≠ 0) := by first | simpa using hc75 | simpa [and_assoc] using hc75
    clear hc75
    refine co_false h74 rfl ?_
    refine wp_skip ?_
    refine co_then ?_
    refine co_seq ?_
    refine co_reg ?_
    refine pl_val (v := .string n47) h74 rfl rfl rfl (by kernel_rfl) (by kernel_rfl) (by kernel_rfl) (fun a77 h77 => ?_); clear h74
    refine pl_want h77 rfl rfl rfl (op_call (args := #[.string n47]) (R := fun res xw => ∃ u : Value, res = .tuple #[.agg #[.int .i64 ((ofB n47).1.1), .int .i64 ((ofB n47).1.2.1), u], .int .i64 ((ofB n47).2)] ∧ xw.ownsRow w63.heap.size 86 3 u ((ofB n47).1.2.2).length (((ofB n47).1.2.2).flatMap opE) ∧ Below w63.heap.size w63 xw) rfl rfl rfl (by kernel_rfl) (by kernel_rfl) (Try.call76 _ _) (ropsOf_any n47 ((ofB n47).1.1) ((ofB n47).1.2.1) ((ofB n47).1.2.2) ((ofB n47).2) w63 (by first | omega | (simp; done) | (simp; omega)) rfl) (by rintro e x ⟨u, rfl, hq81, hb82⟩; exact ⟨_, rfl, ⟨u, rfl, hq81, hb82⟩⟩)) ?_; clear h77
    rintro _ w79 a78 ⟨u80, rfl, hq81, hb82⟩ h78
    have hB83 := hb_call hB67 hb82
    have hz84 := hB83.size
    have hz85 := hb82.size
    have hk86 := hk70.below hb82
    have ho87 := ho71.below hb82
    have hl88 := sl_len (row_sl hq81 opE_len)
    refine pl_val (v := .tuple #[.agg #[.int .i64 ((ofB n47).1.1), .int .i64 ((ofB n47).1.2.1), u80], .int .i64 ((ofB n47).2)]) h78 rfl rfl rfl (by kernel_rfl) (by kernel_rfl) (by kernel_rfl) (fun a89 h89 => ?_); clear h78
    refine pl_val (v := .agg #[.int .i64 ((ofB n47).1.1), .int .i64 ((ofB n47).1.2.1), u80]) h89 rfl rfl rfl (by kernel_rfl) (by kernel_rfl) (by kernel_rfl) (fun a90 h90 => ?_); clear h89
    refine pl_val (v := .int .i64 ((ofB n47).2)) h90 rfl rfl rfl (by kernel_rfl) (by kernel_rfl) (by kernel_rfl) (fun a91 h91 => ?_); clear h90
    refine pl_want h91 rfl rfl rfl (op_new (v := fun N => .pointer (some ⟨N, 0, none⟩)) (T := 31) (cs := #[.int .i64 0, .int .i64 0, .slice none 0 0]) (by kernel_rfl) (by kernel_rfl) (by kernel_rfl)) ?_; clear h91
    rintro _ w93 a92 ⟨N94, rfl, hN97, hz98, hk96, hg95⟩ h92
    have ha99 := row_fresh hq81 hN97
    have hB100 := hb_new hB83 hg95
    have hz101 := hB100.size
    have hz102 := hg95.size
    have hk103 := hk86.kept hg95 (by simp)
    have ho104 := ho87.new hg95
    have hr105 := row_kept_new hq81 hg95
    try dsimp only at h92
    refine pl_doW h92 rfl rfl (op_storeN rfl rfl rfl (all_cons rfl (all_cons rfl (all_cons (row_one hr105) all_nil))) (by kernel_rfl) hk96 rfl) ?_; clear h92
    rintro _ w107 a106 ⟨hk108, hz109, hg110⟩ h106
    have hk108' : Blk w107 N94 31 #[.int .i64 ((ofB n47).1.1), .int .i64 ((ofB n47).1.2.1), u80] := hk108; clear hk108
    have hB111 := hb_at hB100 hg110 (by omega)
    have hz112 := hB111.size
    have hz113 := hg110.size
    have hk114 := hk103.kept hg110 (by simp; omega)
    have ho115 := ho104.at (by omega) hg110
    have hr116 := row_kept_at hr105 hg110 (ha99)
    refine pl_val (v := .int .i64 ((ofB n47).2)) h106 rfl rfl rfl (by kernel_rfl) (by kernel_rfl) (by kernel_rfl) (fun a117 h117 => ?_); clear h106
    refine pl_nil ?_
    refine co_then ?_
    refine co_seq ?_
    refine co_seq ?_
    refine co_reg ?_
    refine pl_val (v := .int .i64 ((ofB n47).2)) h117 rfl rfl rfl (by kernel_rfl) (by kernel_rfl) (by kernel_rfl) (fun a118 h118 => ?_); clear h117
    refine pl_val (v := .bool (((ofB n47).2) != 0)) h118 rfl rfl rfl (by kernel_rfl) (by kernel_rfl) (by kernel_rfl) (fun a119 h119 => ?_); clear h118
    refine pl_nil ?_
    refine co_then ?_
    cases hc120 : (((ofB n47).2) != 0)
    ·
      rw [hc120] at h119
      have hp121 : ¬ (((ofB n47).2) ≠ 0) := by first | simpa using hc120 | simpa [and_assoc] using hc120
      clear hc120
      refine co_false h119 rfl ?_
      refine wp_skip ?_
      refine co_then ?_
      refine co_seq ?_
      refine co_reg ?_
      refine pl_val (v := .agg #[.int .i64 ((ofB n47).1.1), .int .i64 ((ofB n47).1.2.1), u80]) h119 rfl rfl rfl (by kernel_rfl) (by kernel_rfl) (rn_loadN rfl rfl Try.underlying31 rfl (by kernel_rfl) hk108'.all) (fun a122 h122 => ?_); clear h119
      refine pl_val (v := .int .u64 n30) h122 rfl rfl rfl (by kernel_rfl) (by kernel_rfl) (by kernel_rfl) (fun a123 h123 => ?_); clear h122
      refine pl_val (v := .agg #[.int .i64 ((ofB n47).1.1), .int .i64 ((ofB n47).1.2.1), u80, .int .u64 n30]) h123 rfl rfl rfl (by kernel_rfl) (by kernel_rfl) (by kernel_rfl) (fun a124 h124 => ?_); clear h123
      refine pl_doW h124 rfl rfl (op_storeN rfl rfl rfl (all_cons rfl (all_cons rfl (all_cons (row_one hr116) (all_cons rfl all_nil)))) (by kernel_rfl) hk114 rfl) ?_; clear h124
      rintro _ w126 a125 ⟨hk127, hz128, hg129⟩ h125
      have hk127' : Blk w126 N3 34 #[.int .i64 ((ofB n47).1.1), .int .i64 ((ofB n47).1.2.1), u80, .int .u64 n30] := hk127; clear hk127
      have hB130 := hb_at hB111 hg129 (by omega)
      have hz131 := hB130.size
      have hz132 := hg129.size
      have ho133 := ho115.at (by omega) hg129
      have hr134 := row_kept_at hr116 hg129 (row_ne_lt hr116 (by omega))
      have hk135 := hk108'.kept hg129 (by simp; omega)
      refine pl_val (v := .int .i64 0) h125 rfl rfl rfl (by kernel_rfl) (by kernel_rfl) (by kernel_rfl) (fun a136 h136 => ?_); clear h125
      refine pl_nil ?_
      refine co_then ?_
      refine wp_ret ?_
      refine co_retC1 (Q := fun _ _ _ => True) h136 rfl rfl rfl hk127' Try.underlying34 rfl (by kernel_rfl) ?_
      cases hof.symm.trans ((ofE_at hq33 hq50 hq65).trans (ofEndE_c (by assumption) (by assumption)))
      exact ⟨_, rfl, (row_lows hr134 (by omega)), hB130⟩
    ·
      rw [hc120] at h119
      have hp137 : ((ofB n47).2) ≠ 0 := by first | simpa using hc120 | simpa [and_assoc] using hc120
      clear hc120
      refine co_true h119 rfl ?_
      refine co_seq ?_
      refine co_reg ?_
      refine pl_val (v := .agg #[.int .i64 0, .int .i64 0, .slice none 0 0, .int .u64 0]) h119 rfl rfl rfl (by kernel_rfl) (by kernel_rfl) (by kernel_rfl) (fun a138 h138 => ?_); clear h119
      refine pl_val (v := .int .i64 ((ofB n47).2)) h138 rfl rfl rfl (by kernel_rfl) (by kernel_rfl) (by kernel_rfl) (fun a139 h139 => ?_); clear h138
      refine pl_doW h139 rfl rfl (op_storeN rfl rfl rfl (all_cons rfl (all_cons rfl (all_cons rfl (all_cons rfl all_nil)))) (by kernel_rfl) hk114 rfl) ?_; clear h139
      rintro _ w141 a140 ⟨hk142, hz143, hg144⟩ h140
      have hk142' : Blk w141 N3 34 #[.int .i64 0, .int .i64 0, .slice none 0 0, .int .u64 0] := hk142; clear hk142
      have hB145 := hb_at hB111 hg144 (by omega)
      have hz146 := hB145.size
      have hz147 := hg144.size
      have ho148 := ho115.at (by omega) hg144
      have hr149 := row_kept_at hr116 hg144 (row_ne_lt hr116 (by omega))
      have hk150 := hk108'.kept hg144 (by simp; omega)
      refine pl_val (v := .int .i64 ((ofB n47).2)) h140 rfl rfl rfl (by kernel_rfl) (by kernel_rfl) (by kernel_rfl) (fun a151 h151 => ?_); clear h140
      refine pl_nil ?_
      refine co_then ?_
      refine wp_ret ?_
      refine co_thenR ?_
      refine co_retC1 (Q := fun _ _ _ => True) h151 rfl rfl rfl hk142' Try.underlying34 rfl (by kernel_rfl) ?_
      cases hof.symm.trans ((ofE_at hq33 hq50 hq65).trans (ofEndE_b (by assumption) (by assumption)))
      exact ⟨_, rfl, (row_nilL _ _ _ _ _), hB145⟩
  ·
    rw [hc75] at h74
    have hp152 : r64 ≠ 0 := by first | simpa using hc75 | simpa [and_assoc] using hc75
    clear hc75
    refine co_true h74 rfl ?_
    refine co_seq ?_
    refine co_reg ?_
    refine pl_val (v := .agg #[.int .i64 0, .int .i64 0, .slice none 0 0, .int .u64 0]) h74 rfl rfl rfl (by kernel_rfl) (by kernel_rfl) (by kernel_rfl) (fun a153 h153 => ?_); clear h74
    refine pl_val (v := .int .i64 r64) h153 rfl rfl rfl (by kernel_rfl) (by kernel_rfl) (by kernel_rfl) (fun a154 h154 => ?_); clear h153
    refine pl_doW h154 rfl rfl (op_storeN rfl rfl rfl (all_cons rfl (all_cons rfl (all_cons rfl (all_cons rfl all_nil)))) (by kernel_rfl) hk70 rfl) ?_; clear h154
    rintro _ w156 a155 ⟨hk157, hz158, hg159⟩ h155
    have hk157' : Blk w156 N3 34 #[.int .i64 0, .int .i64 0, .slice none 0 0, .int .u64 0] := hk157; clear hk157
    have hB160 := hb_at hB67 hg159 (by omega)
    have hz161 := hB160.size
    have hz162 := hg159.size
    have ho163 := ho71.at (by omega) hg159
    refine pl_val (v := .int .i64 r64) h155 rfl rfl rfl (by kernel_rfl) (by kernel_rfl) (by kernel_rfl) (fun a164 h164 => ?_); clear h155
    refine pl_nil ?_
    refine co_then ?_
    refine wp_ret ?_
    refine co_thenR ?_
    refine co_retC1 (Q := fun _ _ _ => True) h164 rfl rfl rfl hk157' Try.underlying34 rfl (by kernel_rfl) ?_
    cases hof.symm.trans ((ofE_at hq33 hq50 hq65).trans (ofEndE_a (by assumption)))
    exact ⟨_, rfl, (row_nilL _ _ _ _ _), hB160⟩
end Go.Proofs.Yteioaaegooebpaa
