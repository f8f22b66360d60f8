/- Package lease, pure parts; Right, Min, find. Conditions: none. -/
import Derived.Test.YtfhiciaakgcbnaaPexC
import Derived.Test.YtfhiciaakgcbnaaDelPin
import Derived.PlainAid
import Derived.Laws.StructEq
namespace Go.Proofs.Ytfhiciaakgcbnaa
open Go.RowKit Go.PlainAid
set_option linter.unusedVariables false


abbrev PinT := Int × Int × Int
theorem intE_len (k : IntKind) (y : Int) : (intE k y).length = 1 := rfl
theorem intE_one (k : IntKind) (y : Int) : ∀ u ∈ intE k y, u.oneCell' = true := by intro u hu; simp [intE] at hu; subst hu; rfl
theorem eq_pin (a b c d e f : Int) (w : World) : (binOp .eql 46 (.agg #[.int .i64 a, .int .u64 b, .int .i64 c]) (.agg #[.int .i64 d, .int .u64 e, .int .i64 f])).run Try.prog w = .ok (.bool (a == d && b == e && c == f)) w := by
  have u := Try.underlying27
  have u' := Try.underlying3
  have hS : Try.prog.underlying 46 = some (.struct (Try.prog.fieldsOf 46)) := by kernel_rfl
  have hp : Try.prog.stoodInHeld 46 = false := by kernel_rfl
  have hf : (Try.prog.fieldsOf 46).toList.map (fun f => (f.offset, f.type)) = [(0, 3), (1, 27), (2, 3)] := by kernel_rfl
  rw [run_eql_struct, show (10000 : Nat) = 9999 + 1 from rfl, run_equalIn_agg w 9999 46 _ _ hS hp]
  simp only [Program.fieldsOf, Try.underlying46]
  go_simp
  by_cases h1 : a = d <;> by_cases h2 : b = e <;> by_cases h3 : c = f <;> simp [h1, h2, h3]
/-- Do pins rise by Id, with ticks in range? -/
def pinsUp : Int → List PinT → Bool
  | _, [] => true
  | last, p :: r => decide (last < p.1) && decide (1 ≤ p.2.2) && decide (p.2.2 ≤ 8) && pinsUp p.1 r
def rightP (l : List PinT) : Bool := pinsUp 0 l && decide ((l.length : Int) ≤ 3)
theorem drop_at {α : Type} {l : List α} {i : Nat} {y : α} (h : l[i]? = some y) : l.drop i = y :: l.drop (i + 1) := by
  obtain ⟨hi, rfl⟩ := List.getElem?_eq_some_iff.1 h
  exact List.drop_eq_getElem_cons hi
theorem take_at {α : Type} {l : List α} {i : Nat} {y : α} (h : l[i]? = some y) : l.take (i + 1) = l.take i ++ [y] := by
  rw [List.take_add_one, h]; rfl
theorem pinsUp_step {l : List PinT} {i : Nat} {y : PinT} {last : Int} {b : Bool} (h : pinsUp last (l.drop i) = b) (hy : l[i]? = some y) (h1 : last < y.1) (h2 : 1 ≤ y.2.2) (h3 : y.2.2 ≤ 8) : pinsUp y.1 (l.drop (i + 1)) = b := by
  rw [drop_at hy] at h; simpa [pinsUp, h1, h2, h3] using h
theorem pinsUp_no {l : List PinT} {i : Nat} {y : PinT} {last : Int} {b : Bool} (h : pinsUp last (l.drop i) = b) (hy : l[i]? = some y) (hn : ¬ (last < y.1 ∧ 1 ≤ y.2.2 ∧ y.2.2 ≤ 8)) : b = false := by
  rw [drop_at hy] at h; rw [← h]; simp only [pinsUp]
  by_cases a : last < y.1
  · by_cases b : 1 ≤ y.2.2
    · by_cases c : y.2.2 ≤ 8
      · exact absurd ⟨a, b, c⟩ hn
      · simp [c]
    · simp [b]
  · simp [a]
theorem pinsUp_end {l : List PinT} {i : Nat} {last : Int} {b : Bool} (h : pinsUp last (l.drop i) = b) (hi : l.length ≤ i) : b = true := by
  rw [List.drop_eq_nil_of_le hi] at h; simpa [pinsUp] using h.symm
theorem rightP_no {l : List PinT} (h : pinsUp 0 l = false) : false = rightP l := by unfold rightP; rw [h]; simp
theorem rightP_end {l : List PinT} (h : pinsUp 0 l = true) : decide ((l.length : Int) ≤ 3) = rightP l := by unfold rightP; rw [h]; simp
/-- The Id of the pin ahead of place i; 0 at the start. -/
def idAhead (l : List PinT) (i : Nat) : Int := if i = 0 then 0 else (l.getD (i - 1) (0, 0, 0)).1
theorem idAhead_succ {l : List PinT} {i : Nat} {y : PinT} (h : l[i]? = some y) : idAhead l (i + 1) = y.1 := by
  simp [idAhead, List.getD_eq_getElem?_getD, h]
theorem idAhead_pos {l : List PinT} {i j : Nat} {y : PinT} (hj : j = i - 1) (h0 : 0 < i) (h : l[j]? = some y) : idAhead l i = y.1 := by
  subst hj; simp [idAhead, List.getD_eq_getElem?_getD, h]; omega
/-- The least time of pins; 0 of none. -/
def minP : List PinT → Int
  | [] => 0
  | p :: r => r.foldl (fun m q => if q.2.1 < m then q.2.1 else m) p.2.1
theorem minP_snoc {l : List PinT} (h : l ≠ []) (y : PinT) : minP (l ++ [y]) = if y.2.1 < minP l then y.2.1 else minP l := by
  cases l with
  | nil => exact absurd rfl h
  | cons p r =>
    show List.foldl _ _ (r ++ [y]) = _
    rw [List.foldl_append]; rfl
theorem minP_at {l : List PinT} {i : Nat} {y : PinT} (h : l[i]? = some y) (h0 : 0 < i) : minP (l.take (i + 1)) = if y.2.1 < minP (l.take i) then y.2.1 else minP (l.take i) := by
  rw [take_at h, minP_snoc]
  intro e
  have h1 := congrArg List.length e
  have h2 := (List.getElem?_eq_some_iff.1 h).1
  rw [List.length_take, List.length_nil] at h1; omega
theorem minP_one {l : List PinT} {y : PinT} (h : l[0]? = some y) : minP (l.take 1) = y.2.1 := by
  rw [take_at h]; rfl
theorem minP_lo {l : List PinT} (h : ∀ z ∈ l, pinOk z) : 0 ≤ minP l ∧ minP l < 18446744073709551616 := by
  cases l with
  | nil => exact ⟨by first | decide | simp, by first | decide | simp⟩
  | cons p r =>
    have hp := wf_u64 (h p (by simp)).2.1
    have hr : ∀ z ∈ r, 0 ≤ z.2.1 ∧ z.2.1 < 18446744073709551616 := fun z hz => wf_u64 (h z (by simp [hz])).2.1
    have key : ∀ (r : List PinT) (m : Int), (∀ z ∈ r, 0 ≤ z.2.1 ∧ z.2.1 < 18446744073709551616) → 0 ≤ m ∧ m < 18446744073709551616 → 0 ≤ r.foldl (fun m q => if q.2.1 < m then q.2.1 else m) m ∧ r.foldl (fun m q => if q.2.1 < m then q.2.1 else m) m < 18446744073709551616 := by
      intro r
      induction r with
      | nil => intro m _ h; exact h
      | cons q r ih =>
        intro m h1 h2
        simp only [List.foldl_cons]
        refine ih _ (fun z hz => h1 z (by simp [hz])) ?_
        have := h1 q (by simp)
        split <;> omega
    exact key r _ hr hp
theorem minP_all {l : List PinT} {i : Nat} (h : l.length ≤ i) : minP (l.take i) = minP l := by rw [List.take_of_length_le h]
def MinInv (l : List PinT) (i : Nat) (mn : Int) : Prop := (i = 0 ∧ ∀ z, l[0]? = some z → mn = z.2.1) ∨ (0 < i ∧ mn = minP (l.take i))
theorem MinInv.start {l : List PinT} {y : PinT} (h : l[0]? = some y) : MinInv l 0 y.2.1 := .inl ⟨rfl, fun z hz => by rw [h] at hz; cases hz; rfl⟩
theorem MinInv.step {l : List PinT} {i : Nat} {mn mn' : Int} {y : PinT} (h : MinInv l i mn) (hy : l[i]? = some y) (he : mn' = if y.2.1 < mn then y.2.1 else mn) : MinInv l (i + 1) mn' := by
  refine .inr ⟨by omega, ?_⟩
  rcases h with ⟨rfl, hz⟩ | ⟨h0, hm⟩
  · have e := hz _ hy
    rw [minP_one hy, he, e]; simp
  · rw [minP_at hy h0, ← hm, he]
theorem MinInv.end {l : List PinT} {i : Nat} {mn : Int} (h : MinInv l i mn) (h0 : 0 < l.length) (hi : l.length ≤ i) : mn = minP l := by
  rcases h with ⟨rfl, _⟩ | ⟨_, hm⟩
  · omega
  · rw [hm, minP_all hi]
/-- The place of the first pin with an Id. -/
def findP (l : List PinT) (id : Int) : Int := match l.findIdx? (fun p => p.1 == id) with | some i => (i : Nat) | none => -1
theorem findP_at {l : List PinT} {i : Nat} {y : PinT} {id : Int} (hn : ∀ j, j < i → ∀ z, l[j]? = some z → z.1 ≠ id) (h : l[i]? = some y) (he : y.1 = id) : findP l id = (i : Nat) := by
  obtain ⟨hi, rfl⟩ := List.getElem?_eq_some_iff.1 h
  have : l.findIdx? (fun p => p.1 == id) = some i := by
    rw [List.findIdx?_eq_some_iff_getElem]
    exact ⟨hi, by simpa using he, fun j hj => by simpa using hn j hj _ (List.getElem?_eq_getElem (by omega))⟩
  simp [findP, this]
theorem findP_none {l : List PinT} {i : Nat} {id : Int} (hn : ∀ j, j < i → ∀ z, l[j]? = some z → z.1 ≠ id) (h : l.length ≤ i) : findP l id = -1 := by
  have : l.findIdx? (fun p => p.1 == id) = none := by
    rw [List.findIdx?_eq_none_iff]
    intro x hx
    obtain ⟨j, hj, rfl⟩ := List.getElem_of_mem hx
    simpa using hn j (by omega) _ (List.getElem?_eq_getElem hj)
  simp [findP, this]
theorem none_step {l : List PinT} {i : Nat} {y : PinT} {id : Int} (hn : ∀ j, j < i → ∀ z, l[j]? = some z → z.1 ≠ id) (h : l[i]? = some y) (he : ¬ y.1 = id) : ∀ j, j < i + 1 → ∀ z, l[j]? = some z → z.1 ≠ id := by
  intro j hj z hz
  by_cases e : j = i
  · subst e; rw [h] at hz; cases hz; exact he
  · exact hn j (by omega) z hz
/-- Those that stay behind a tick, and the Ids of those that go. -/
def stayP : List PinT → List PinT
  | [] => []
  | p :: r => if p.2.2 ≤ 1 then stayP r else (p.1, p.2.1, p.2.2 - 1) :: stayP r
def goneP : List PinT → List Int
  | [] => []
  | p :: r => if p.2.2 ≤ 1 then p.1 :: goneP r else goneP r
theorem stayP_snoc : ∀ (l : List PinT) (y : PinT), stayP (l ++ [y]) = if y.2.2 ≤ 1 then stayP l else stayP l ++ [(y.1, y.2.1, y.2.2 - 1)]
  | [], y => by simp only [List.nil_append, stayP]
  | p :: r, y => by
    simp only [List.cons_append, stayP, stayP_snoc r y]
    split <;> split <;> simp
theorem goneP_snoc : ∀ (l : List PinT) (y : PinT), goneP (l ++ [y]) = if y.2.2 ≤ 1 then goneP l ++ [y.1] else goneP l
  | [], y => by simp only [List.nil_append, goneP]
  | p :: r, y => by
    simp only [List.cons_append, goneP, goneP_snoc r y]
    split <;> split <;> simp
theorem stayP_len : ∀ l : List PinT, (stayP l).length ≤ l.length
  | [] => by simp [stayP]
  | p :: r => by have := stayP_len r; simp only [stayP]; split <;> simp <;> omega
theorem goneP_len : ∀ l : List PinT, (goneP l).length ≤ l.length
  | [] => by simp [goneP]
  | p :: r => by have := goneP_len r; simp only [goneP]; split <;> simp <;> omega
theorem stay_yes {l : List PinT} {i : Nat} {y : PinT} (h : l[i]? = some y) (h1 : ¬ y.2.2 ≤ 1) : stayP (l.take i) ++ [(y.1, y.2.1, y.2.2 - 1)] = stayP (l.take (i + 1)) := by rw [take_at h, stayP_snoc, if_neg h1]
theorem stay_no {l : List PinT} {i : Nat} {y : PinT} (h : l[i]? = some y) (h1 : y.2.2 ≤ 1) : stayP (l.take i) = stayP (l.take (i + 1)) := by rw [take_at h, stayP_snoc, if_pos h1]
theorem gone_yes {l : List PinT} {i : Nat} {y : PinT} (h : l[i]? = some y) (h1 : y.2.2 ≤ 1) : goneP (l.take i) ++ [y.1] = goneP (l.take (i + 1)) := by rw [take_at h, goneP_snoc, if_pos h1]
theorem gone_no {l : List PinT} {i : Nat} {y : PinT} (h : l[i]? = some y) (h1 : ¬ y.2.2 ≤ 1) : goneP (l.take i) = goneP (l.take (i + 1)) := by rw [take_at h, goneP_snoc, if_neg h1]
/-- Granted, renewed, freed. -/
def grantP (l : List PinT) (id ts : Int) : List PinT × Int :=
  if (l.length : Int) ≥ 3 then ([], 17) else if id < 1 ∨ id > 1073741824 then ([], 1) else if 0 < l.length ∧ id ≤ (l.getD (l.length - 1) (0, 0, 0)).1 then ([], 18) else (l ++ [(id, ts, 8)], 0)
def renewP (l : List PinT) (id : Int) : List PinT × Int :=
  if findP l id < 0 then ([], 7) else (l.set (findP l id).toNat ((l.getD (findP l id).toNat (0, 0, 0)).1, (l.getD (findP l id).toNat (0, 0, 0)).2.1, 8), 0)
def freeP (l : List PinT) (id : Int) : List PinT × Int :=
  if findP l id < 0 then ([], 7) else (l.take (findP l id).toNat ++ l.drop ((findP l id).toNat + 1), 0)
theorem findP_lt (l : List PinT) (id : Int) : findP l id < l.length ∧ -1 ≤ findP l id := by
  unfold findP
  split
  · rename_i i h
    have := (List.findIdx?_eq_some_iff_getElem.1 h).1
    omega
  · omega
theorem getD_of {l : List PinT} {i : Nat} {y : PinT} (h : l[i]? = some y) : l.getD i (0, 0, 0) = y := by rw [List.getD_eq_getElem?_getD, h]; rfl

set_option maxRecDepth 100000 in
theorem leaseRight_any (v : Value) (l : List PinT) (w : World) (hs : SliceOf pinE 3 w v l) (hok : ∀ z ∈ l, pinOk z) :
    Calls Try.prog 48 #[v] w fun e w' => e = .returned (.bool (rightP l)) ∧ Below w.heap.size w w' := by
  have hB0 := Below.refl w.heap.size w
  have hl_hs := sl_len hs
  refine co_enter (n := 32) Try.func48 rfl rfl rfl [(0, v)] rfl (fun a h0 => ?_)
  refine co_seq ?_
  refine co_reg ?_
  refine pl_val (v := .bool false) h0 rfl rfl rfl (by kernel_rfl) (by kernel_rfl) (by kernel_rfl) (fun a1 h1 => ?_); clear h0
  refine pl_nil ?_
  refine co_then ?_
  refine co_seq ?_
  refine co_reg ?_
  refine pl_val (v := .int .i64 0) h1 rfl rfl rfl (by kernel_rfl) (by kernel_rfl) (by kernel_rfl) (fun a2 h2 => ?_); clear h1
  refine pl_nil ?_
  refine co_then ?_
  refine co_seq ?_
  refine co_seq ?_
  refine co_reg ?_
  refine pl_val (v := v) h2 rfl rfl rfl (by kernel_rfl) (by kernel_rfl) (by kernel_rfl) (fun a3 h3 => ?_); clear h2
  refine pl_val (v := .int .i64 ((l.length : Nat) : Int)) h3 rfl rfl rfl (by kernel_rfl) (by kernel_rfl) (rn_len rfl rfl Try.underlying77 hs) (fun a4 h4 => ?_); clear h3
  refine pl_val (v := .int .i64 0) h4 rfl rfl rfl (by kernel_rfl) (by kernel_rfl) (by kernel_rfl) (fun a5 h5 => ?_); clear h4
  refine pl_nil ?_
  refine co_then ?_
  refine wp_block ?_
  have h6 : Slots 32 [(0, v), (2, .bool false), (3, .int .i64 0), (6, v), (7, .int .i64 ((l.length : Nat) : Int)), (8, .int .i64 0)] _ := h5.sub ⟨rfl, rfl, rfl, rfl, rfl, rfl, trivial⟩; clear h5
  refine co_loop (fun mm a x => ∃ (i : Nat) (last : Int), Slots 32 [(0, v), (2, .bool false), (3, .int .i64 last), (6, v), (7, .int .i64 ((l.length : Nat) : Int)), (8, .int .i64 ((i : Nat) : Int))] a ∧ mm = l.length - i ∧ (i ≤ l.length) ∧ (-9223372036854775808 ≤ last) ∧ (pinsUp last (l.drop i) = pinsUp 0 l) ∧ Below w.heap.size w x) (l.length - 0) ?_ ?_
  · exact ⟨0, 0, h6.sub ⟨rfl, rfl, rfl, rfl, rfl, (slot_eq rfl (congrArg (Value.int .i64) (by first | rfl | omega))), trivial⟩, rfl, by omega, by omega, by first | (simp; done) | exact pinsUp_step (by assumption) (by assumption) (by omega) (by omega) (by omega), hB0⟩
  · rintro k7 a8 w9 ⟨i, last, h8, rfl, hi10, hi11, hi12, hB13⟩
    have hz14 := hB13.size
    refine co_seq ?_
    refine co_reg ?_
    refine pl_val (v := .bool (decide (((i : Nat) : Int) < ((l.length : Nat) : Int)))) h8 rfl rfl rfl (by kernel_rfl) (by kernel_rfl) (by kernel_rfl) (fun a15 h15 => ?_); clear h8
    refine pl_nil ?_
    refine co_then ?_
    refine co_seq ?_
    cases hc16 : (decide (((i : Nat) : Int) < ((l.length : Nat) : Int)))
    ·
      rw [hc16] at h15
      have hp17 : ¬ (((i : Nat) : Int) < ((l.length : Nat) : Int)) := of_decide_eq_false hc16
      clear hc16
      refine co_false h15 rfl ?_
      refine wp_exit ?_
      refine co_thenX ?_
      refine co_thenX ?_
      refine co_blockX ?_
      refine co_then ?_
      refine co_seq ?_
      refine co_reg ?_
      refine pl_val (v := v) h15 rfl rfl rfl (by kernel_rfl) (by kernel_rfl) (by kernel_rfl) (fun a18 h18 => ?_); clear h15
      refine pl_val (v := .int .i64 ((l.length : Nat) : Int)) h18 rfl rfl rfl (by kernel_rfl) (by kernel_rfl) (rn_len rfl rfl Try.underlying77 (hs.below hB13)) (fun a19 h19 => ?_); clear h18
      refine pl_val (v := .bool (decide (((l.length : Nat) : Int) ≤ 3))) h19 rfl rfl rfl (by kernel_rfl) (by kernel_rfl) (by kernel_rfl) (fun a20 h20 => ?_); clear h19
      refine pl_val (v := .bool (decide (((l.length : Nat) : Int) ≤ 3))) h20 rfl rfl rfl (by kernel_rfl) (by kernel_rfl) (by kernel_rfl) (fun a21 h21 => ?_); clear h20
      refine pl_nil ?_
      refine co_then ?_
      refine wp_ret ?_
      refine co_ret1 h21 rfl rfl ?_
      exact ⟨ret_bool (rightP_end (pinsUp_end (l := l) (i := i) (last := last) (by assumption) (by omega))), hB13⟩
    ·
      rw [hc16] at h15
      have hp22 : ((i : Nat) : Int) < ((l.length : Nat) : Int) := of_decide_eq_true hc16
      clear hc16
      refine co_true h15 rfl ?_
      refine wp_skip ?_
      refine co_then ?_
      refine co_seq ?_
      refine wp_block ?_
      refine co_seq ?_
      refine co_reg ?_
      obtain ⟨y23, hy23⟩ : ∃ z, l[i]? = some z := ⟨_, List.getElem?_eq_getElem (by first | omega | (simp; done) | (simp; omega))⟩
      have oky23 := hok _ (List.mem_of_getElem? hy23)
      have k24 : -9223372036854775808 ≤ y23.1 ∧ y23.1 ≤ 9223372036854775807 := (wf_i64 oky23.1)
      have k25 : 0 ≤ y23.2.1 ∧ y23.2.1 < 18446744073709551616 := (wf_u64 oky23.2.1)
      have k26 : -9223372036854775808 ≤ y23.2.2 ∧ y23.2.2 ≤ 9223372036854775807 := (wf_i64 oky23.2.2)
      refine pl_val (v := .pointer (some ⟨(blkOf v), offOf v + i * 3, none⟩)) h15 rfl rfl rfl (by kernel_rfl) (by kernel_rfl) (rn_index rfl rfl rfl Try.underlying77 Try.sizeOf46 (hs.below hB13) (by omega) (by first | omega | (simp; done) | (simp; omega))) (fun a27 h27 => ?_); clear h15
      refine pl_val (v := .agg #[.int .i64 y23.1, .int .u64 y23.2.1, .int .i64 y23.2.2]) h27 rfl rfl rfl (by kernel_rfl) (by kernel_rfl) (rn_loadN rfl rfl Try.underlying46 rfl (by kernel_rfl) (sl_at (hs.below hB13) hy23)) (fun a28 h28 => ?_); clear h27
      refine pl_want h28 rfl rfl rfl (op_new (v := fun N => .pointer (some ⟨N, 0, none⟩)) (T := 46) (cs := #[.int .i64 0, .int .u64 0, .int .i64 0]) (by kernel_rfl) (by kernel_rfl) (by kernel_rfl)) ?_; clear h28
      rintro _ w30 a29 ⟨N31, rfl, hN34, hz35, hk33, hg32⟩ h29
      have hB36 := hb_new hB13 hg32
      have hz37 := hB36.size
      have hz38 := hg32.size
      try dsimp only at h29
      refine pl_doW h29 rfl rfl (op_storeN rfl rfl rfl (by kernel_rfl) (by kernel_rfl) hk33 rfl) ?_; clear h29
      rintro _ w40 a39 ⟨hk41, hz42, hg43⟩ h39
      have hk41' : Blk w40 N31 46 #[.int .i64 y23.1, .int .u64 y23.2.1, .int .i64 y23.2.2] := hk41; clear hk41
      have hB44 := hb_at hB36 hg43 (by omega)
      have hz45 := hB44.size
      have hz46 := hg43.size
      refine pl_nil ?_
      refine co_then ?_
      refine co_seq ?_
      refine co_seq ?_
      refine co_reg ?_
      refine pl_val (v := .pointer (some ⟨N31, 0, none⟩)) h39 rfl rfl rfl (by kernel_rfl) (by kernel_rfl) (by kernel_rfl) (fun a47 h47 => ?_); clear h39
      refine pl_val (v := .int .i64 y23.1) h47 rfl rfl rfl (by kernel_rfl) (by kernel_rfl) (rn_load1 rfl rfl Try.isAgg3 (hk41'.cell rfl)) (fun a48 h48 => ?_); clear h47
      refine pl_val (v := .int .i64 last) h48 rfl rfl rfl (by kernel_rfl) (by kernel_rfl) (by kernel_rfl) (fun a49 h49 => ?_); clear h48
      refine pl_val (v := .bool (decide (y23.1 ≤ last))) h49 rfl rfl rfl (by kernel_rfl) (by kernel_rfl) (by kernel_rfl) (fun a50 h50 => ?_); clear h49
      refine pl_val (v := .bool (decide (y23.1 ≤ last))) h50 rfl rfl rfl (by kernel_rfl) (by kernel_rfl) (by kernel_rfl) (fun a51 h51 => ?_); clear h50
      cases hc52 : (decide (y23.1 ≤ last))
      ·
        rw [hc52] at h51
        have hp53 : ¬ (y23.1 ≤ last) := of_decide_eq_false hc52
        clear hc52
        refine pl_val (v := .pointer (some ⟨N31, 2, none⟩)) h51 rfl rfl rfl (by kernel_rfl) (by kernel_rfl) (by kernel_rfl) (fun a54 h54 => ?_); clear h51
        refine pl_val (v := .int .i64 y23.2.2) h54 rfl rfl rfl (by kernel_rfl) (by kernel_rfl) (rn_load1 rfl rfl Try.isAgg3 (hk41'.cell rfl)) (fun a55 h55 => ?_); clear h54
        refine pl_val (v := .bool (decide (y23.2.2 < 1))) h55 rfl rfl rfl (by kernel_rfl) (by kernel_rfl) (by kernel_rfl) (fun a56 h56 => ?_); clear h55
        refine pl_val (v := .bool (decide (y23.2.2 < 1))) h56 rfl rfl rfl (by kernel_rfl) (by kernel_rfl) (by kernel_rfl) (fun a57 h57 => ?_); clear h56
        refine pl_val (v := .bool (decide (y23.2.2 < 1))) h57 rfl rfl rfl (by kernel_rfl) (by kernel_rfl) (by kernel_rfl) (fun a58 h58 => ?_); clear h57
        cases hc59 : (decide (y23.2.2 < 1))
        ·
          rw [hc59] at h58
          have hp60 : ¬ (y23.2.2 < 1) := of_decide_eq_false hc59
          clear hc59
          refine pl_val (v := .pointer (some ⟨N31, 2, none⟩)) h58 rfl rfl rfl (by kernel_rfl) (by kernel_rfl) (by kernel_rfl) (fun a61 h61 => ?_); clear h58
          refine pl_val (v := .int .i64 y23.2.2) h61 rfl rfl rfl (by kernel_rfl) (by kernel_rfl) (rn_load1 rfl rfl Try.isAgg3 (hk41'.cell rfl)) (fun a62 h62 => ?_); clear h61
          refine pl_val (v := .bool (decide (y23.2.2 > 8))) h62 rfl rfl rfl (by kernel_rfl) (by kernel_rfl) (by kernel_rfl) (fun a63 h63 => ?_); clear h62
          refine pl_val (v := .bool (decide (y23.2.2 > 8))) h63 rfl rfl rfl (by kernel_rfl) (by kernel_rfl) (by kernel_rfl) (fun a64 h64 => ?_); clear h63
          refine pl_nil ?_
          refine co_then ?_
          cases hc65 : (decide (y23.2.2 > 8))
          ·
            rw [hc65] at h64
            have hp66 : ¬ (y23.2.2 > 8) := of_decide_eq_false hc65
            clear hc65
            refine co_false h64 rfl ?_
            refine wp_skip ?_
            refine co_then ?_
            refine co_reg ?_
            refine pl_val (v := .pointer (some ⟨N31, 0, none⟩)) h64 rfl rfl rfl (by kernel_rfl) (by kernel_rfl) (by kernel_rfl) (fun a67 h67 => ?_); clear h64
            refine pl_val (v := .int .i64 y23.1) h67 rfl rfl rfl (by kernel_rfl) (by kernel_rfl) (rn_load1 rfl rfl Try.isAgg3 (hk41'.cell rfl)) (fun a68 h68 => ?_); clear h67
            refine pl_val (v := .int .i64 y23.1) h68 rfl rfl rfl (by kernel_rfl) (by kernel_rfl) (by kernel_rfl) (fun a69 h69 => ?_); clear h68
            refine pl_nil ?_
            refine co_blockN ?_
            refine co_then ?_
            refine co_reg ?_
            refine pl_val (v := .int .i64 ((i + 1 : Nat) : Int)) h69 rfl rfl rfl (by kernel_rfl) (by kernel_rfl) (rn_arith' rfl rfl rfl rfl rfl rfl (IntWalk.i64_in _ (by omega)) (by omega)) (fun a70 h70 => ?_); clear h69
            refine pl_val (v := .int .i64 ((i + 1 : Nat) : Int)) h70 rfl rfl rfl (by kernel_rfl) (by kernel_rfl) (by kernel_rfl) (fun a71 h71 => ?_); clear h70
            refine pl_nil ?_
            refine co_then ?_
            refine ⟨(l.length - (i + 1)), by omega, ?_⟩
            exact ⟨i + 1, y23.1, h71.sub ⟨rfl, rfl, rfl, rfl, rfl, rfl, trivial⟩, rfl, by omega, by omega, by first | (simp; done) | exact pinsUp_step (by assumption) (by assumption) (by omega) (by omega) (by omega), hB44⟩
          ·
            rw [hc65] at h64
            have hp72 : y23.2.2 > 8 := of_decide_eq_true hc65
            clear hc65
            refine co_true h64 rfl ?_
            refine co_seq ?_
            refine co_reg ?_
            refine pl_val (v := .bool false) h64 rfl rfl rfl (by kernel_rfl) (by kernel_rfl) (by kernel_rfl) (fun a73 h73 => ?_); clear h64
            refine pl_nil ?_
            refine co_then ?_
            refine wp_ret ?_
            refine co_thenR ?_
            refine co_blockR ?_
            refine co_thenR ?_
            refine co_thenR ?_
            refine co_blockR ?_
            refine co_thenR ?_
            refine co_ret1 h73 rfl rfl ?_
            exact ⟨ret_bool (rightP_no (pinsUp_no (last := last) (by assumption) (by assumption) (by omega))), hB44⟩
        ·
          rw [hc59] at h58
          have hp74 : y23.2.2 < 1 := of_decide_eq_true hc59
          clear hc59
          refine pl_skip h58 rfl rfl rfl (fun a75 h75 => ?_); clear h58
          refine pl_skip h75 rfl rfl rfl (fun a76 h76 => ?_); clear h75
          refine pl_skip h76 rfl rfl rfl (fun a77 h77 => ?_); clear h76
          refine pl_val (v := .bool true) h77 rfl rfl rfl (by kernel_rfl) (by kernel_rfl) (by kernel_rfl) (fun a78 h78 => ?_); clear h77
          refine pl_nil ?_
          refine co_then ?_
          refine co_true h78 rfl ?_
          refine co_seq ?_
          refine co_reg ?_
          refine pl_val (v := .bool false) h78 rfl rfl rfl (by kernel_rfl) (by kernel_rfl) (by kernel_rfl) (fun a79 h79 => ?_); clear h78
          refine pl_nil ?_
          refine co_then ?_
          refine wp_ret ?_
          refine co_thenR ?_
          refine co_blockR ?_
          refine co_thenR ?_
          refine co_thenR ?_
          refine co_blockR ?_
          refine co_thenR ?_
          refine co_ret1 h79 rfl rfl ?_
          exact ⟨ret_bool (rightP_no (pinsUp_no (last := last) (by assumption) (by assumption) (by omega))), hB44⟩
      ·
        rw [hc52] at h51
        have hp80 : y23.1 ≤ last := of_decide_eq_true hc52
        clear hc52
        refine pl_skip h51 rfl rfl rfl (fun a81 h81 => ?_); clear h51
        refine pl_skip h81 rfl rfl rfl (fun a82 h82 => ?_); clear h81
        refine pl_skip h82 rfl rfl rfl (fun a83 h83 => ?_); clear h82
        refine pl_val (v := .bool true) h83 rfl rfl rfl (by kernel_rfl) (by kernel_rfl) (by kernel_rfl) (fun a84 h84 => ?_); clear h83
        refine pl_val (v := .bool true) h84 rfl rfl rfl (by kernel_rfl) (by kernel_rfl) (by kernel_rfl) (fun a85 h85 => ?_); clear h84
        refine pl_skip h85 rfl rfl rfl (fun a86 h86 => ?_); clear h85
        refine pl_skip h86 rfl rfl rfl (fun a87 h87 => ?_); clear h86
        refine pl_skip h87 rfl rfl rfl (fun a88 h88 => ?_); clear h87
        refine pl_val (v := .bool true) h88 rfl rfl rfl (by kernel_rfl) (by kernel_rfl) (by kernel_rfl) (fun a89 h89 => ?_); clear h88
        refine pl_nil ?_
        refine co_then ?_
        refine co_true h89 rfl ?_
        refine co_seq ?_
        refine co_reg ?_
        refine pl_val (v := .bool false) h89 rfl rfl rfl (by kernel_rfl) (by kernel_rfl) (by kernel_rfl) (fun a90 h90 => ?_); clear h89
        refine pl_nil ?_
        refine co_then ?_
        refine wp_ret ?_
        refine co_thenR ?_
        refine co_blockR ?_
        refine co_thenR ?_
        refine co_thenR ?_
        refine co_blockR ?_
        refine co_thenR ?_
        refine co_ret1 h90 rfl rfl ?_
        exact ⟨ret_bool (rightP_no (pinsUp_no (last := last) (by assumption) (by assumption) (by omega))), hB44⟩
set_option maxRecDepth 100000 in
theorem rleaseRight_any (v : Value) (l : List PinT) (w : World) (hs : SliceOf pinE 3 w v l) (hok : ∀ z ∈ l, pinOk z) :
    Calls Try.prog 49 #[v] w fun e w' => e = .returned (.bool (rightP l)) ∧ Below w.heap.size w w' := by
  have hB0 := Below.refl w.heap.size w
  have hl_hs := sl_len hs
  refine co_enter (n := 53) Try.func49 rfl rfl rfl [(0, v)] rfl (fun a h0 => ?_)
  refine co_seq ?_
  refine co_reg ?_
  refine pl_val (v := .bool false) h0 rfl rfl rfl (by kernel_rfl) (by kernel_rfl) (by kernel_rfl) (fun a1 h1 => ?_); clear h0
  refine pl_nil ?_
  refine co_then ?_
  refine co_seq ?_
  refine co_seq ?_
  refine co_reg ?_
  refine pl_val (v := .int .i64 0) h1 rfl rfl rfl (by kernel_rfl) (by kernel_rfl) (by kernel_rfl) (fun a2 h2 => ?_); clear h1
  refine pl_nil ?_
  refine co_then ?_
  refine wp_block ?_
  have h3 : Slots 53 [(0, v), (2, .bool false), (3, .int .i64 0)] _ := h2.sub ⟨rfl, rfl, rfl, trivial⟩; clear h2
  refine co_loop (fun mm a x => ∃ (i : Nat), Slots 53 [(0, v), (2, .bool false), (3, .int .i64 ((i : Nat) : Int))] a ∧ mm = l.length - i ∧ (i ≤ l.length) ∧ (0 ≤ idAhead l i) ∧ (pinsUp (idAhead l i) (l.drop i) = pinsUp 0 l) ∧ Below w.heap.size w x) (l.length - 0) ?_ ?_
  · exact ⟨0, h3.sub ⟨rfl, rfl, (slot_eq rfl (congrArg (Value.int .i64) (by first | rfl | omega))), trivial⟩, rfl, by omega, by first | (simp [idAhead]; done) | (rw [idAhead_succ (by assumption)]; omega), by first | (simp [idAhead]; done) | (rw [idAhead_succ (by assumption)]; refine pinsUp_step (last := idAhead l i) (by assumption) (by assumption) ?_ (by omega) (by omega); first | (have e0 : i = 0 := by omega); (subst e0; simp [idAhead]; omega) | (rw [idAhead_pos (l := l) (i := i) (j := (↑i - 1 : Int).toNat) (by omega) (by omega) (by assumption)]; omega)), hB0⟩
  · rintro k4 a5 w6 ⟨i, h5, rfl, hi7, hi8, hi9, hB10⟩
    have hz11 := hB10.size
    refine co_seq ?_
    refine co_seq ?_
    refine co_reg ?_
    refine pl_val (v := .int .i64 ((i : Nat) : Int)) h5 rfl rfl rfl (by kernel_rfl) (by kernel_rfl) (by kernel_rfl) (fun a12 h12 => ?_); clear h5
    refine pl_val (v := v) h12 rfl rfl rfl (by kernel_rfl) (by kernel_rfl) (by kernel_rfl) (fun a13 h13 => ?_); clear h12
    refine pl_val (v := .int .i64 ((l.length : Nat) : Int)) h13 rfl rfl rfl (by kernel_rfl) (by kernel_rfl) (rn_len rfl rfl Try.underlying77 (hs.below hB10)) (fun a14 h14 => ?_); clear h13
    refine pl_val (v := .bool (decide (((i : Nat) : Int) < ((l.length : Nat) : Int)))) h14 rfl rfl rfl (by kernel_rfl) (by kernel_rfl) (by kernel_rfl) (fun a15 h15 => ?_); clear h14
    refine pl_nil ?_
    refine co_then ?_
    cases hc16 : (decide (((i : Nat) : Int) < ((l.length : Nat) : Int)))
    ·
      rw [hc16] at h15
      have hp17 : ¬ (((i : Nat) : Int) < ((l.length : Nat) : Int)) := of_decide_eq_false hc16
      clear hc16
      refine co_false h15 rfl ?_
      refine wp_exit ?_
      refine co_thenX ?_
      refine co_thenX ?_
      refine co_blockX ?_
      refine co_then ?_
      refine co_seq ?_
      refine co_reg ?_
      refine pl_val (v := v) h15 rfl rfl rfl (by kernel_rfl) (by kernel_rfl) (by kernel_rfl) (fun a18 h18 => ?_); clear h15
      refine pl_val (v := .int .i64 ((l.length : Nat) : Int)) h18 rfl rfl rfl (by kernel_rfl) (by kernel_rfl) (rn_len rfl rfl Try.underlying77 (hs.below hB10)) (fun a19 h19 => ?_); clear h18
      refine pl_val (v := .bool (decide (((l.length : Nat) : Int) ≤ 3))) h19 rfl rfl rfl (by kernel_rfl) (by kernel_rfl) (by kernel_rfl) (fun a20 h20 => ?_); clear h19
      refine pl_val (v := .bool (decide (((l.length : Nat) : Int) ≤ 3))) h20 rfl rfl rfl (by kernel_rfl) (by kernel_rfl) (by kernel_rfl) (fun a21 h21 => ?_); clear h20
      refine pl_nil ?_
      refine co_then ?_
      refine wp_ret ?_
      refine co_ret1 h21 rfl rfl ?_
      exact ⟨ret_bool (rightP_end (pinsUp_end (l := l) (i := i) (last := idAhead l i) (by assumption) (by omega))), hB10⟩
    ·
      rw [hc16] at h15
      have hp22 : ((i : Nat) : Int) < ((l.length : Nat) : Int) := of_decide_eq_true hc16
      clear hc16
      refine co_true h15 rfl ?_
      refine wp_skip ?_
      refine co_then ?_
      refine co_seq ?_
      refine wp_block ?_
      refine co_seq ?_
      refine dr_eq (by kernel_rfl) (fun w23 hg24 => ?_)
      have hB25 := hb_new hB10 hg24
      have hz26 := hB25.size
      have hz27 := hg24.size
      refine dr_take (i := 0) (v := v) h15 rfl (by kernel_rfl) (by kernel_rfl) (by kernel_rfl) rfl rfl rfl rfl (by kernel_rfl) (fun _ _ => by kernel_rfl) (fun a28 h28 => ?_); clear h15
      refine dr_take (i := 1) (v := .int .i64 ((i : Nat) : Int)) h28 rfl (by kernel_rfl) (by kernel_rfl) (by kernel_rfl) rfl rfl rfl rfl (by kernel_rfl) (fun _ _ => by kernel_rfl) (fun a29 h29 => ?_); clear h28
      obtain ⟨y30, hy30⟩ : ∃ z, l[i]? = some z := ⟨_, List.getElem?_eq_getElem (by first | omega | (simp; done) | (simp; omega))⟩
      have oky30 := hok _ (List.mem_of_getElem? hy30)
      have k31 : -9223372036854775808 ≤ y30.1 ∧ y30.1 ≤ 9223372036854775807 := (wf_i64 oky30.1)
      have k32 : 0 ≤ y30.2.1 ∧ y30.2.1 < 18446744073709551616 := (wf_u64 oky30.2.1)
      have k33 : -9223372036854775808 ≤ y30.2.2 ∧ y30.2.2 ≤ 9223372036854775807 := (wf_i64 oky30.2.2)
      refine dr_take (i := 2) (v := .pointer (some ⟨(blkOf v), offOf v + i * 3, none⟩)) h29 rfl (by kernel_rfl) (by kernel_rfl) (by kernel_rfl) rfl rfl rfl rfl (by kernel_rfl) (fun x hx => by subst hx; exact (rn_index rfl rfl rfl Try.underlying77 Try.sizeOf46 (hs.below hB25) (by omega) (by first | omega | (simp; done) | (simp; omega)))) (fun a34 h34 => ?_); clear h29
      refine dr_take (i := 3) (v := .pointer (some ⟨(blkOf v), offOf v + i * 3, none⟩)) h34 rfl (by kernel_rfl) (by kernel_rfl) (by kernel_rfl) rfl rfl rfl rfl (by kernel_rfl) (fun _ _ => by kernel_rfl) (fun a35 h35 => ?_); clear h34
      refine dr_take (i := 4) (v := .int .i64 y30.1) h35 rfl (by kernel_rfl) (by kernel_rfl) (by kernel_rfl) rfl rfl rfl rfl (by kernel_rfl) (fun x hx => by subst hx; exact (rn_load1 rfl rfl Try.isAgg3 ((sl_at (hs.below hB25) hy30) 0 _ rfl))) (fun a36 h36 => ?_); clear h35
      refine dr_take (i := 5) (v := .bool (decide (y30.1 < 1))) h36 rfl (by kernel_rfl) (by kernel_rfl) (by kernel_rfl) rfl rfl rfl rfl (by kernel_rfl) (fun _ _ => by kernel_rfl) (fun a37 h37 => ?_); clear h36
      refine dr_take (i := 6) (v := .bool (decide (y30.1 < 1))) h37 rfl (by kernel_rfl) (by kernel_rfl) (by kernel_rfl) rfl rfl rfl rfl (by kernel_rfl) (fun _ _ => by kernel_rfl) (fun a38 h38 => ?_); clear h37
      cases hc39 : (decide (y30.1 < 1))
      ·
        rw [hc39] at h38
        have hp40 : ¬ (y30.1 < 1) := of_decide_eq_false hc39
        clear hc39
        refine dr_take (i := 7) (v := .int .i64 ((i : Nat) : Int)) h38 rfl (by kernel_rfl) (by kernel_rfl) (by kernel_rfl) rfl rfl rfl rfl (by kernel_rfl) (fun _ _ => by kernel_rfl) (fun a41 h41 => ?_); clear h38
        refine dr_take (i := 8) (v := .bool (decide (((i : Nat) : Int) > 0))) h41 rfl (by kernel_rfl) (by kernel_rfl) (by kernel_rfl) rfl rfl rfl rfl (by kernel_rfl) (fun _ _ => by kernel_rfl) (fun a42 h42 => ?_); clear h41
        refine dr_take (i := 9) (v := .bool (decide (((i : Nat) : Int) > 0))) h42 rfl (by kernel_rfl) (by kernel_rfl) (by kernel_rfl) rfl rfl rfl rfl (by kernel_rfl) (fun _ _ => by kernel_rfl) (fun a43 h43 => ?_); clear h42
        cases hc44 : (decide (((i : Nat) : Int) > 0))
        ·
          rw [hc44] at h43
          have hp45 : ¬ (((i : Nat) : Int) > 0) := of_decide_eq_false hc44
          clear hc44
          refine dr_skip (i := 10) h43 rfl (by kernel_rfl) (by kernel_rfl) (by kernel_rfl) rfl rfl rfl rfl (fun a46 h46 => ?_); clear h43
          refine dr_skip (i := 11) h46 rfl (by kernel_rfl) (by kernel_rfl) (by kernel_rfl) rfl rfl rfl rfl (fun a47 h47 => ?_); clear h46
          refine dr_skip (i := 12) h47 rfl (by kernel_rfl) (by kernel_rfl) (by kernel_rfl) rfl rfl rfl rfl (fun a48 h48 => ?_); clear h47
          refine dr_skip (i := 13) h48 rfl (by kernel_rfl) (by kernel_rfl) (by kernel_rfl) rfl rfl rfl rfl (fun a49 h49 => ?_); clear h48
          refine dr_skip (i := 14) h49 rfl (by kernel_rfl) (by kernel_rfl) (by kernel_rfl) rfl rfl rfl rfl (fun a50 h50 => ?_); clear h49
          refine dr_skip (i := 15) h50 rfl (by kernel_rfl) (by kernel_rfl) (by kernel_rfl) rfl rfl rfl rfl (fun a51 h51 => ?_); clear h50
          refine dr_skip (i := 16) h51 rfl (by kernel_rfl) (by kernel_rfl) (by kernel_rfl) rfl rfl rfl rfl (fun a52 h52 => ?_); clear h51
          refine dr_skip (i := 17) h52 rfl (by kernel_rfl) (by kernel_rfl) (by kernel_rfl) rfl rfl rfl rfl (fun a53 h53 => ?_); clear h52
          refine dr_skip (i := 18) h53 rfl (by kernel_rfl) (by kernel_rfl) (by kernel_rfl) rfl rfl rfl rfl (fun a54 h54 => ?_); clear h53
          refine dr_skip (i := 19) h54 rfl (by kernel_rfl) (by kernel_rfl) (by kernel_rfl) rfl rfl rfl rfl (fun a55 h55 => ?_); clear h54
          refine dr_skip (i := 20) h55 rfl (by kernel_rfl) (by kernel_rfl) (by kernel_rfl) rfl rfl rfl rfl (fun a56 h56 => ?_); clear h55
          refine dr_skip (i := 21) h56 rfl (by kernel_rfl) (by kernel_rfl) (by kernel_rfl) rfl rfl rfl rfl (fun a57 h57 => ?_); clear h56
          refine dr_take (i := 22) (v := .bool false) h57 rfl (by kernel_rfl) (by kernel_rfl) (by kernel_rfl) rfl rfl rfl rfl (by kernel_rfl) (fun _ _ => by kernel_rfl) (fun a58 h58 => ?_); clear h57
          refine dr_take (i := 23) (v := .bool false) h58 rfl (by kernel_rfl) (by kernel_rfl) (by kernel_rfl) rfl rfl rfl rfl (by kernel_rfl) (fun _ _ => by kernel_rfl) (fun a59 h59 => ?_); clear h58
          refine dr_take (i := 24) (v := .bool false) h59 rfl (by kernel_rfl) (by kernel_rfl) (by kernel_rfl) rfl rfl rfl rfl (by kernel_rfl) (fun _ _ => by kernel_rfl) (fun a60 h60 => ?_); clear h59
          refine dr_take (i := 25) (v := v) h60 rfl (by kernel_rfl) (by kernel_rfl) (by kernel_rfl) rfl rfl rfl rfl (by kernel_rfl) (fun _ _ => by kernel_rfl) (fun a61 h61 => ?_); clear h60
          refine dr_take (i := 26) (v := .int .i64 ((i : Nat) : Int)) h61 rfl (by kernel_rfl) (by kernel_rfl) (by kernel_rfl) rfl rfl rfl rfl (by kernel_rfl) (fun _ _ => by kernel_rfl) (fun a62 h62 => ?_); clear h61
          refine dr_take (i := 27) (v := .pointer (some ⟨(blkOf v), offOf v + i * 3, none⟩)) h62 rfl (by kernel_rfl) (by kernel_rfl) (by kernel_rfl) rfl rfl rfl rfl (by kernel_rfl) (fun x hx => by subst hx; exact (rn_index rfl rfl rfl Try.underlying77 Try.sizeOf46 (hs.below hB25) (by omega) (by first | omega | (simp; done) | (simp; omega)))) (fun a63 h63 => ?_); clear h62
          refine dr_take (i := 28) (v := .pointer (some ⟨(blkOf v), offOf v + i * 3 + 2, none⟩)) h63 rfl (by kernel_rfl) (by kernel_rfl) (by kernel_rfl) rfl rfl rfl rfl (by kernel_rfl) (fun _ _ => by kernel_rfl) (fun a64 h64 => ?_); clear h63
          refine dr_take (i := 29) (v := .int .i64 y30.2.2) h64 rfl (by kernel_rfl) (by kernel_rfl) (by kernel_rfl) rfl rfl rfl rfl (by kernel_rfl) (fun x hx => by subst hx; exact (rn_load1 rfl rfl Try.isAgg3 ((sl_at (hs.below hB25) hy30) 2 _ rfl))) (fun a65 h65 => ?_); clear h64
          refine dr_take (i := 30) (v := .bool (decide (y30.2.2 < 1))) h65 rfl (by kernel_rfl) (by kernel_rfl) (by kernel_rfl) rfl rfl rfl rfl (by kernel_rfl) (fun _ _ => by kernel_rfl) (fun a66 h66 => ?_); clear h65
          refine dr_take (i := 31) (v := .bool (decide (y30.2.2 < 1))) h66 rfl (by kernel_rfl) (by kernel_rfl) (by kernel_rfl) rfl rfl rfl rfl (by kernel_rfl) (fun _ _ => by kernel_rfl) (fun a67 h67 => ?_); clear h66
          refine dr_take (i := 32) (v := .bool (decide (y30.2.2 < 1))) h67 rfl (by kernel_rfl) (by kernel_rfl) (by kernel_rfl) rfl rfl rfl rfl (by kernel_rfl) (fun _ _ => by kernel_rfl) (fun a68 h68 => ?_); clear h67
          cases hc69 : (decide (y30.2.2 < 1))
          ·
            rw [hc69] at h68
            have hp70 : ¬ (y30.2.2 < 1) := of_decide_eq_false hc69
            clear hc69
            refine dr_take (i := 33) (v := v) h68 rfl (by kernel_rfl) (by kernel_rfl) (by kernel_rfl) rfl rfl rfl rfl (by kernel_rfl) (fun _ _ => by kernel_rfl) (fun a71 h71 => ?_); clear h68
            refine dr_take (i := 34) (v := .int .i64 ((i : Nat) : Int)) h71 rfl (by kernel_rfl) (by kernel_rfl) (by kernel_rfl) rfl rfl rfl rfl (by kernel_rfl) (fun _ _ => by kernel_rfl) (fun a72 h72 => ?_); clear h71
            refine dr_take (i := 35) (v := .pointer (some ⟨(blkOf v), offOf v + i * 3, none⟩)) h72 rfl (by kernel_rfl) (by kernel_rfl) (by kernel_rfl) rfl rfl rfl rfl (by kernel_rfl) (fun x hx => by subst hx; exact (rn_index rfl rfl rfl Try.underlying77 Try.sizeOf46 (hs.below hB25) (by omega) (by first | omega | (simp; done) | (simp; omega)))) (fun a73 h73 => ?_); clear h72
            refine dr_take (i := 36) (v := .pointer (some ⟨(blkOf v), offOf v + i * 3 + 2, none⟩)) h73 rfl (by kernel_rfl) (by kernel_rfl) (by kernel_rfl) rfl rfl rfl rfl (by kernel_rfl) (fun _ _ => by kernel_rfl) (fun a74 h74 => ?_); clear h73
            refine dr_take (i := 37) (v := .int .i64 y30.2.2) h74 rfl (by kernel_rfl) (by kernel_rfl) (by kernel_rfl) rfl rfl rfl rfl (by kernel_rfl) (fun x hx => by subst hx; exact (rn_load1 rfl rfl Try.isAgg3 ((sl_at (hs.below hB25) hy30) 2 _ rfl))) (fun a75 h75 => ?_); clear h74
            refine dr_take (i := 38) (v := .bool (decide (y30.2.2 > 8))) h75 rfl (by kernel_rfl) (by kernel_rfl) (by kernel_rfl) rfl rfl rfl rfl (by kernel_rfl) (fun _ _ => by kernel_rfl) (fun a76 h76 => ?_); clear h75
            refine dr_take (i := 39) (v := .bool (decide (y30.2.2 > 8))) h76 rfl (by kernel_rfl) (by kernel_rfl) (by kernel_rfl) rfl rfl rfl rfl (by kernel_rfl) (fun _ _ => by kernel_rfl) (fun a77 h77 => ?_); clear h76
            refine dr_done (by kernel_rfl) ?_
            refine co_then ?_
            cases hc78 : (decide (y30.2.2 > 8))
            ·
              rw [hc78] at h77
              have hp79 : ¬ (y30.2.2 > 8) := of_decide_eq_false hc78
              clear hc78
              refine co_false h77 rfl ?_
              refine wp_skip ?_
              refine co_blockN ?_
              refine co_then ?_
              refine co_reg ?_
              refine pl_val (v := .int .i64 ((i : Nat) : Int)) h77 rfl rfl rfl (by kernel_rfl) (by kernel_rfl) (by kernel_rfl) (fun a80 h80 => ?_); clear h77
              refine pl_val (v := .int .i64 ((i + 1 : Nat) : Int)) h80 rfl rfl rfl (by kernel_rfl) (by kernel_rfl) (rn_arith' rfl rfl rfl rfl rfl rfl (IntWalk.i64_in _ (by omega)) (by omega)) (fun a81 h81 => ?_); clear h80
              refine pl_val (v := .int .i64 ((i + 1 : Nat) : Int)) h81 rfl rfl rfl (by kernel_rfl) (by kernel_rfl) (by kernel_rfl) (fun a82 h82 => ?_); clear h81
              refine pl_nil ?_
              refine co_then ?_
              refine ⟨(l.length - (i + 1)), by omega, ?_⟩
              exact ⟨i + 1, h82.sub ⟨rfl, rfl, rfl, trivial⟩, rfl, by omega, by first | (simp [idAhead]; done) | (rw [idAhead_succ (by assumption)]; omega), by first | (simp [idAhead]; done) | (rw [idAhead_succ (by assumption)]; refine pinsUp_step (last := idAhead l i) (by assumption) (by assumption) ?_ (by omega) (by omega); first | (have e0 : i = 0 := by omega); (subst e0; simp [idAhead]; omega) | (rw [idAhead_pos (l := l) (i := i) (j := (↑i - 1 : Int).toNat) (by omega) (by omega) (by assumption)]; omega)), hB25⟩
            ·
              rw [hc78] at h77
              have hp83 : y30.2.2 > 8 := of_decide_eq_true hc78
              clear hc78
              refine co_true h77 rfl ?_
              refine co_seq ?_
              refine co_reg ?_
              refine pl_val (v := .bool false) h77 rfl rfl rfl (by kernel_rfl) (by kernel_rfl) (by kernel_rfl) (fun a84 h84 => ?_); clear h77
              refine pl_nil ?_
              refine co_then ?_
              refine wp_ret ?_
              refine co_blockR ?_
              refine co_thenR ?_
              refine co_thenR ?_
              refine co_blockR ?_
              refine co_thenR ?_
              refine co_ret1 h84 rfl rfl ?_
              exact ⟨ret_bool (rightP_no (pinsUp_no (last := idAhead l i) (by assumption) (by assumption) (fun hq => by omega))), hB25⟩
          ·
            rw [hc69] at h68
            have hp85 : y30.2.2 < 1 := of_decide_eq_true hc69
            clear hc69
            refine dr_skip (i := 33) h68 rfl (by kernel_rfl) (by kernel_rfl) (by kernel_rfl) rfl rfl rfl rfl (fun a86 h86 => ?_); clear h68
            refine dr_skip (i := 34) h86 rfl (by kernel_rfl) (by kernel_rfl) (by kernel_rfl) rfl rfl rfl rfl (fun a87 h87 => ?_); clear h86
            refine dr_skip (i := 35) h87 rfl (by kernel_rfl) (by kernel_rfl) (by kernel_rfl) rfl rfl rfl rfl (fun a88 h88 => ?_); clear h87
            refine dr_skip (i := 36) h88 rfl (by kernel_rfl) (by kernel_rfl) (by kernel_rfl) rfl rfl rfl rfl (fun a89 h89 => ?_); clear h88
            refine dr_skip (i := 37) h89 rfl (by kernel_rfl) (by kernel_rfl) (by kernel_rfl) rfl rfl rfl rfl (fun a90 h90 => ?_); clear h89
            refine dr_skip (i := 38) h90 rfl (by kernel_rfl) (by kernel_rfl) (by kernel_rfl) rfl rfl rfl rfl (fun a91 h91 => ?_); clear h90
            refine dr_take (i := 39) (v := .bool true) h91 rfl (by kernel_rfl) (by kernel_rfl) (by kernel_rfl) rfl rfl rfl rfl (by kernel_rfl) (fun _ _ => by kernel_rfl) (fun a92 h92 => ?_); clear h91
            refine dr_done (by kernel_rfl) ?_
            refine co_then ?_
            refine co_true h92 rfl ?_
            refine co_seq ?_
            refine co_reg ?_
            refine pl_val (v := .bool false) h92 rfl rfl rfl (by kernel_rfl) (by kernel_rfl) (by kernel_rfl) (fun a93 h93 => ?_); clear h92
            refine pl_nil ?_
            refine co_then ?_
            refine wp_ret ?_
            refine co_blockR ?_
            refine co_thenR ?_
            refine co_thenR ?_
            refine co_blockR ?_
            refine co_thenR ?_
            refine co_ret1 h93 rfl rfl ?_
            exact ⟨ret_bool (rightP_no (pinsUp_no (last := idAhead l i) (by assumption) (by assumption) (fun hq => by omega))), hB25⟩
        ·
          rw [hc44] at h43
          have hp94 : ((i : Nat) : Int) > 0 := of_decide_eq_true hc44
          clear hc44
          refine dr_take (i := 10) (v := v) h43 rfl (by kernel_rfl) (by kernel_rfl) (by kernel_rfl) rfl rfl rfl rfl (by kernel_rfl) (fun _ _ => by kernel_rfl) (fun a95 h95 => ?_); clear h43
          refine dr_take (i := 11) (v := .int .i64 ((i : Nat) : Int)) h95 rfl (by kernel_rfl) (by kernel_rfl) (by kernel_rfl) rfl rfl rfl rfl (by kernel_rfl) (fun _ _ => by kernel_rfl) (fun a96 h96 => ?_); clear h95
          refine dr_take (i := 12) (v := .int .i64 (((i : Nat) : Int) - 1)) h96 rfl (by kernel_rfl) (by kernel_rfl) (by kernel_rfl) rfl rfl rfl rfl (by kernel_rfl) (fun x hx => by subst hx; exact (rn_arith rfl rfl rfl rfl rfl rfl (IntWalk.i64_in _ (by omega)))) (fun a97 h97 => ?_); clear h96
          obtain ⟨y98, hy98⟩ : ∃ z, l[(((i : Nat) : Int) - 1).toNat]? = some z := ⟨_, List.getElem?_eq_getElem (by first | omega | (simp; done) | (simp; omega))⟩
          have oky98 := hok _ (List.mem_of_getElem? hy98)
          have k99 : -9223372036854775808 ≤ y98.1 ∧ y98.1 ≤ 9223372036854775807 := (wf_i64 oky98.1)
          have k100 : 0 ≤ y98.2.1 ∧ y98.2.1 < 18446744073709551616 := (wf_u64 oky98.2.1)
          have k101 : -9223372036854775808 ≤ y98.2.2 ∧ y98.2.2 ≤ 9223372036854775807 := (wf_i64 oky98.2.2)
          refine dr_take (i := 13) (v := .pointer (some ⟨(blkOf v), offOf v + ((((i : Nat) : Int) - 1).toNat) * 3, none⟩)) h97 rfl (by kernel_rfl) (by kernel_rfl) (by kernel_rfl) rfl rfl rfl rfl (by kernel_rfl) (fun x hx => by subst hx; exact (rn_index rfl rfl rfl Try.underlying77 Try.sizeOf46 (hs.below hB25) (by omega) (by first | omega | (simp; done) | (simp; omega)))) (fun a102 h102 => ?_); clear h97
          refine dr_take (i := 14) (v := .pointer (some ⟨(blkOf v), offOf v + ((((i : Nat) : Int) - 1).toNat) * 3, none⟩)) h102 rfl (by kernel_rfl) (by kernel_rfl) (by kernel_rfl) rfl rfl rfl rfl (by kernel_rfl) (fun _ _ => by kernel_rfl) (fun a103 h103 => ?_); clear h102
          refine dr_take (i := 15) (v := .int .i64 y98.1) h103 rfl (by kernel_rfl) (by kernel_rfl) (by kernel_rfl) rfl rfl rfl rfl (by kernel_rfl) (fun x hx => by subst hx; exact (rn_load1 rfl rfl Try.isAgg3 ((sl_at (hs.below hB25) hy98) 0 _ rfl))) (fun a104 h104 => ?_); clear h103
          refine dr_take (i := 16) (v := v) h104 rfl (by kernel_rfl) (by kernel_rfl) (by kernel_rfl) rfl rfl rfl rfl (by kernel_rfl) (fun _ _ => by kernel_rfl) (fun a105 h105 => ?_); clear h104
          refine dr_take (i := 17) (v := .int .i64 ((i : Nat) : Int)) h105 rfl (by kernel_rfl) (by kernel_rfl) (by kernel_rfl) rfl rfl rfl rfl (by kernel_rfl) (fun _ _ => by kernel_rfl) (fun a106 h106 => ?_); clear h105
          refine dr_take (i := 18) (v := .pointer (some ⟨(blkOf v), offOf v + i * 3, none⟩)) h106 rfl (by kernel_rfl) (by kernel_rfl) (by kernel_rfl) rfl rfl rfl rfl (by kernel_rfl) (fun x hx => by subst hx; exact (rn_index rfl rfl rfl Try.underlying77 Try.sizeOf46 (hs.below hB25) (by omega) (by first | omega | (simp; done) | (simp; omega)))) (fun a107 h107 => ?_); clear h106
          refine dr_take (i := 19) (v := .pointer (some ⟨(blkOf v), offOf v + i * 3, none⟩)) h107 rfl (by kernel_rfl) (by kernel_rfl) (by kernel_rfl) rfl rfl rfl rfl (by kernel_rfl) (fun _ _ => by kernel_rfl) (fun a108 h108 => ?_); clear h107
          refine dr_take (i := 20) (v := .int .i64 y30.1) h108 rfl (by kernel_rfl) (by kernel_rfl) (by kernel_rfl) rfl rfl rfl rfl (by kernel_rfl) (fun x hx => by subst hx; exact (rn_load1 rfl rfl Try.isAgg3 ((sl_at (hs.below hB25) hy30) 0 _ rfl))) (fun a109 h109 => ?_); clear h108
          refine dr_take (i := 21) (v := .bool (decide (y98.1 ≥ y30.1))) h109 rfl (by kernel_rfl) (by kernel_rfl) (by kernel_rfl) rfl rfl rfl rfl (by kernel_rfl) (fun _ _ => by kernel_rfl) (fun a110 h110 => ?_); clear h109
          refine dr_take (i := 22) (v := .bool (decide (y98.1 ≥ y30.1))) h110 rfl (by kernel_rfl) (by kernel_rfl) (by kernel_rfl) rfl rfl rfl rfl (by kernel_rfl) (fun _ _ => by kernel_rfl) (fun a111 h111 => ?_); clear h110
          refine dr_take (i := 23) (v := .bool (decide (y98.1 ≥ y30.1))) h111 rfl (by kernel_rfl) (by kernel_rfl) (by kernel_rfl) rfl rfl rfl rfl (by kernel_rfl) (fun _ _ => by kernel_rfl) (fun a112 h112 => ?_); clear h111
          refine dr_take (i := 24) (v := .bool (decide (y98.1 ≥ y30.1))) h112 rfl (by kernel_rfl) (by kernel_rfl) (by kernel_rfl) rfl rfl rfl rfl (by kernel_rfl) (fun _ _ => by kernel_rfl) (fun a113 h113 => ?_); clear h112
          cases hc114 : (decide (y98.1 ≥ y30.1))
          ·
            rw [hc114] at h113
            have hp115 : ¬ (y98.1 ≥ y30.1) := of_decide_eq_false hc114
            clear hc114
            refine dr_take (i := 25) (v := v) h113 rfl (by kernel_rfl) (by kernel_rfl) (by kernel_rfl) rfl rfl rfl rfl (by kernel_rfl) (fun _ _ => by kernel_rfl) (fun a116 h116 => ?_); clear h113
            refine dr_take (i := 26) (v := .int .i64 ((i : Nat) : Int)) h116 rfl (by kernel_rfl) (by kernel_rfl) (by kernel_rfl) rfl rfl rfl rfl (by kernel_rfl) (fun _ _ => by kernel_rfl) (fun a117 h117 => ?_); clear h116
            refine dr_take (i := 27) (v := .pointer (some ⟨(blkOf v), offOf v + i * 3, none⟩)) h117 rfl (by kernel_rfl) (by kernel_rfl) (by kernel_rfl) rfl rfl rfl rfl (by kernel_rfl) (fun x hx => by subst hx; exact (rn_index rfl rfl rfl Try.underlying77 Try.sizeOf46 (hs.below hB25) (by omega) (by first | omega | (simp; done) | (simp; omega)))) (fun a118 h118 => ?_); clear h117
            refine dr_take (i := 28) (v := .pointer (some ⟨(blkOf v), offOf v + i * 3 + 2, none⟩)) h118 rfl (by kernel_rfl) (by kernel_rfl) (by kernel_rfl) rfl rfl rfl rfl (by kernel_rfl) (fun _ _ => by kernel_rfl) (fun a119 h119 => ?_); clear h118
            refine dr_take (i := 29) (v := .int .i64 y30.2.2) h119 rfl (by kernel_rfl) (by kernel_rfl) (by kernel_rfl) rfl rfl rfl rfl (by kernel_rfl) (fun x hx => by subst hx; exact (rn_load1 rfl rfl Try.isAgg3 ((sl_at (hs.below hB25) hy30) 2 _ rfl))) (fun a120 h120 => ?_); clear h119
            refine dr_take (i := 30) (v := .bool (decide (y30.2.2 < 1))) h120 rfl (by kernel_rfl) (by kernel_rfl) (by kernel_rfl) rfl rfl rfl rfl (by kernel_rfl) (fun _ _ => by kernel_rfl) (fun a121 h121 => ?_); clear h120
            refine dr_take (i := 31) (v := .bool (decide (y30.2.2 < 1))) h121 rfl (by kernel_rfl) (by kernel_rfl) (by kernel_rfl) rfl rfl rfl rfl (by kernel_rfl) (fun _ _ => by kernel_rfl) (fun a122 h122 => ?_); clear h121
            refine dr_take (i := 32) (v := .bool (decide (y30.2.2 < 1))) h122 rfl (by kernel_rfl) (by kernel_rfl) (by kernel_rfl) rfl rfl rfl rfl (by kernel_rfl) (fun _ _ => by kernel_rfl) (fun a123 h123 => ?_); clear h122
            cases hc124 : (decide (y30.2.2 < 1))
            ·
              rw [hc124] at h123
              have hp125 : ¬ (y30.2.2 < 1) := of_decide_eq_false hc124
              clear hc124
              refine dr_take (i := 33) (v := v) h123 rfl (by kernel_rfl) (by kernel_rfl) (by kernel_rfl) rfl rfl rfl rfl (by kernel_rfl) (fun _ _ => by kernel_rfl) (fun a126 h126 => ?_); clear h123
              refine dr_take (i := 34) (v := .int .i64 ((i : Nat) : Int)) h126 rfl (by kernel_rfl) (by kernel_rfl) (by kernel_rfl) rfl rfl rfl rfl (by kernel_rfl) (fun _ _ => by kernel_rfl) (fun a127 h127 => ?_); clear h126
              refine dr_take (i := 35) (v := .pointer (some ⟨(blkOf v), offOf v + i * 3, none⟩)) h127 rfl (by kernel_rfl) (by kernel_rfl) (by kernel_rfl) rfl rfl rfl rfl (by kernel_rfl) (fun x hx => by subst hx; exact (rn_index rfl rfl rfl Try.underlying77 Try.sizeOf46 (hs.below hB25) (by omega) (by first | omega | (simp; done) | (simp; omega)))) (fun a128 h128 => ?_); clear h127
              refine dr_take (i := 36) (v := .pointer (some ⟨(blkOf v), offOf v + i * 3 + 2, none⟩)) h128 rfl (by kernel_rfl) (by kernel_rfl) (by kernel_rfl) rfl rfl rfl rfl (by kernel_rfl) (fun _ _ => by kernel_rfl) (fun a129 h129 => ?_); clear h128
              refine dr_take (i := 37) (v := .int .i64 y30.2.2) h129 rfl (by kernel_rfl) (by kernel_rfl) (by kernel_rfl) rfl rfl rfl rfl (by kernel_rfl) (fun x hx => by subst hx; exact (rn_load1 rfl rfl Try.isAgg3 ((sl_at (hs.below hB25) hy30) 2 _ rfl))) (fun a130 h130 => ?_); clear h129
              refine dr_take (i := 38) (v := .bool (decide (y30.2.2 > 8))) h130 rfl (by kernel_rfl) (by kernel_rfl) (by kernel_rfl) rfl rfl rfl rfl (by kernel_rfl) (fun _ _ => by kernel_rfl) (fun a131 h131 => ?_); clear h130
              refine dr_take (i := 39) (v := .bool (decide (y30.2.2 > 8))) h131 rfl (by kernel_rfl) (by kernel_rfl) (by kernel_rfl) rfl rfl rfl rfl (by kernel_rfl) (fun _ _ => by kernel_rfl) (fun a132 h132 => ?_); clear h131
              refine dr_done (by kernel_rfl) ?_
              refine co_then ?_
              cases hc133 : (decide (y30.2.2 > 8))
              ·
                rw [hc133] at h132
                have hp134 : ¬ (y30.2.2 > 8) := of_decide_eq_false hc133
                clear hc133
                refine co_false h132 rfl ?_
                refine wp_skip ?_
                refine co_blockN ?_
                refine co_then ?_
                refine co_reg ?_
                refine pl_val (v := .int .i64 ((i : Nat) : Int)) h132 rfl rfl rfl (by kernel_rfl) (by kernel_rfl) (by kernel_rfl) (fun a135 h135 => ?_); clear h132
                refine pl_val (v := .int .i64 ((i + 1 : Nat) : Int)) h135 rfl rfl rfl (by kernel_rfl) (by kernel_rfl) (rn_arith' rfl rfl rfl rfl rfl rfl (IntWalk.i64_in _ (by omega)) (by omega)) (fun a136 h136 => ?_); clear h135
                refine pl_val (v := .int .i64 ((i + 1 : Nat) : Int)) h136 rfl rfl rfl (by kernel_rfl) (by kernel_rfl) (by kernel_rfl) (fun a137 h137 => ?_); clear h136
                refine pl_nil ?_
                refine co_then ?_
                refine ⟨(l.length - (i + 1)), by omega, ?_⟩
                exact ⟨i + 1, h137.sub ⟨rfl, rfl, rfl, trivial⟩, rfl, by omega, by first | (simp [idAhead]; done) | (rw [idAhead_succ (by assumption)]; omega), by first | (simp [idAhead]; done) | (rw [idAhead_succ (by assumption)]; refine pinsUp_step (last := idAhead l i) (by assumption) (by assumption) ?_ (by omega) (by omega); first | (have e0 : i = 0 := by omega); (subst e0; simp [idAhead]; omega) | (rw [idAhead_pos (l := l) (i := i) (j := (↑i - 1 : Int).toNat) (by omega) (by omega) (by assumption)]; omega)), hB25⟩
              ·
                rw [hc133] at h132
                have hp138 : y30.2.2 > 8 := of_decide_eq_true hc133
                clear hc133
                refine co_true h132 rfl ?_
                refine co_seq ?_
                refine co_reg ?_
                refine pl_val (v := .bool false) h132 rfl rfl rfl (by kernel_rfl) (by kernel_rfl) (by kernel_rfl) (fun a139 h139 => ?_); clear h132
                refine pl_nil ?_
                refine co_then ?_
                refine wp_ret ?_
                refine co_blockR ?_
                refine co_thenR ?_
                refine co_thenR ?_
                refine co_blockR ?_
                refine co_thenR ?_
                refine co_ret1 h139 rfl rfl ?_
                have hid := idAhead_pos (l := l) (i := i) (j := (((i : Nat) : Int) - 1).toNat) (by omega) (by omega) hy98
                exact ⟨ret_bool (rightP_no (pinsUp_no (last := idAhead l i) (by assumption) (by assumption) (fun hq => by omega))), hB25⟩
            ·
              rw [hc124] at h123
              have hp140 : y30.2.2 < 1 := of_decide_eq_true hc124
              clear hc124
              refine dr_skip (i := 33) h123 rfl (by kernel_rfl) (by kernel_rfl) (by kernel_rfl) rfl rfl rfl rfl (fun a141 h141 => ?_); clear h123
              refine dr_skip (i := 34) h141 rfl (by kernel_rfl) (by kernel_rfl) (by kernel_rfl) rfl rfl rfl rfl (fun a142 h142 => ?_); clear h141
              refine dr_skip (i := 35) h142 rfl (by kernel_rfl) (by kernel_rfl) (by kernel_rfl) rfl rfl rfl rfl (fun a143 h143 => ?_); clear h142
              refine dr_skip (i := 36) h143 rfl (by kernel_rfl) (by kernel_rfl) (by kernel_rfl) rfl rfl rfl rfl (fun a144 h144 => ?_); clear h143
              refine dr_skip (i := 37) h144 rfl (by kernel_rfl) (by kernel_rfl) (by kernel_rfl) rfl rfl rfl rfl (fun a145 h145 => ?_); clear h144
              refine dr_skip (i := 38) h145 rfl (by kernel_rfl) (by kernel_rfl) (by kernel_rfl) rfl rfl rfl rfl (fun a146 h146 => ?_); clear h145
              refine dr_take (i := 39) (v := .bool true) h146 rfl (by kernel_rfl) (by kernel_rfl) (by kernel_rfl) rfl rfl rfl rfl (by kernel_rfl) (fun _ _ => by kernel_rfl) (fun a147 h147 => ?_); clear h146
              refine dr_done (by kernel_rfl) ?_
              refine co_then ?_
              refine co_true h147 rfl ?_
              refine co_seq ?_
              refine co_reg ?_
              refine pl_val (v := .bool false) h147 rfl rfl rfl (by kernel_rfl) (by kernel_rfl) (by kernel_rfl) (fun a148 h148 => ?_); clear h147
              refine pl_nil ?_
              refine co_then ?_
              refine wp_ret ?_
              refine co_blockR ?_
              refine co_thenR ?_
              refine co_thenR ?_
              refine co_blockR ?_
              refine co_thenR ?_
              refine co_ret1 h148 rfl rfl ?_
              have hid := idAhead_pos (l := l) (i := i) (j := (((i : Nat) : Int) - 1).toNat) (by omega) (by omega) hy98
              exact ⟨ret_bool (rightP_no (pinsUp_no (last := idAhead l i) (by assumption) (by assumption) (fun hq => by omega))), hB25⟩
          ·
            rw [hc114] at h113
            have hp149 : y98.1 ≥ y30.1 := of_decide_eq_true hc114
            clear hc114
            refine dr_skip (i := 25) h113 rfl (by kernel_rfl) (by kernel_rfl) (by kernel_rfl) rfl rfl rfl rfl (fun a150 h150 => ?_); clear h113
            refine dr_skip (i := 26) h150 rfl (by kernel_rfl) (by kernel_rfl) (by kernel_rfl) rfl rfl rfl rfl (fun a151 h151 => ?_); clear h150
            refine dr_skip (i := 27) h151 rfl (by kernel_rfl) (by kernel_rfl) (by kernel_rfl) rfl rfl rfl rfl (fun a152 h152 => ?_); clear h151
            refine dr_skip (i := 28) h152 rfl (by kernel_rfl) (by kernel_rfl) (by kernel_rfl) rfl rfl rfl rfl (fun a153 h153 => ?_); clear h152
            refine dr_skip (i := 29) h153 rfl (by kernel_rfl) (by kernel_rfl) (by kernel_rfl) rfl rfl rfl rfl (fun a154 h154 => ?_); clear h153
            refine dr_skip (i := 30) h154 rfl (by kernel_rfl) (by kernel_rfl) (by kernel_rfl) rfl rfl rfl rfl (fun a155 h155 => ?_); clear h154
            refine dr_take (i := 31) (v := .bool true) h155 rfl (by kernel_rfl) (by kernel_rfl) (by kernel_rfl) rfl rfl rfl rfl (by kernel_rfl) (fun _ _ => by kernel_rfl) (fun a156 h156 => ?_); clear h155
            refine dr_take (i := 32) (v := .bool true) h156 rfl (by kernel_rfl) (by kernel_rfl) (by kernel_rfl) rfl rfl rfl rfl (by kernel_rfl) (fun _ _ => by kernel_rfl) (fun a157 h157 => ?_); clear h156
            refine dr_skip (i := 33) h157 rfl (by kernel_rfl) (by kernel_rfl) (by kernel_rfl) rfl rfl rfl rfl (fun a158 h158 => ?_); clear h157
            refine dr_skip (i := 34) h158 rfl (by kernel_rfl) (by kernel_rfl) (by kernel_rfl) rfl rfl rfl rfl (fun a159 h159 => ?_); clear h158
            refine dr_skip (i := 35) h159 rfl (by kernel_rfl) (by kernel_rfl) (by kernel_rfl) rfl rfl rfl rfl (fun a160 h160 => ?_); clear h159
            refine dr_skip (i := 36) h160 rfl (by kernel_rfl) (by kernel_rfl) (by kernel_rfl) rfl rfl rfl rfl (fun a161 h161 => ?_); clear h160
            refine dr_skip (i := 37) h161 rfl (by kernel_rfl) (by kernel_rfl) (by kernel_rfl) rfl rfl rfl rfl (fun a162 h162 => ?_); clear h161
            refine dr_skip (i := 38) h162 rfl (by kernel_rfl) (by kernel_rfl) (by kernel_rfl) rfl rfl rfl rfl (fun a163 h163 => ?_); clear h162
            refine dr_take (i := 39) (v := .bool true) h163 rfl (by kernel_rfl) (by kernel_rfl) (by kernel_rfl) rfl rfl rfl rfl (by kernel_rfl) (fun _ _ => by kernel_rfl) (fun a164 h164 => ?_); clear h163
            refine dr_done (by kernel_rfl) ?_
            refine co_then ?_
            refine co_true h164 rfl ?_
            refine co_seq ?_
            refine co_reg ?_
            refine pl_val (v := .bool false) h164 rfl rfl rfl (by kernel_rfl) (by kernel_rfl) (by kernel_rfl) (fun a165 h165 => ?_); clear h164
            refine pl_nil ?_
            refine co_then ?_
            refine wp_ret ?_
            refine co_blockR ?_
            refine co_thenR ?_
            refine co_thenR ?_
            refine co_blockR ?_
            refine co_thenR ?_
            refine co_ret1 h165 rfl rfl ?_
            have hid := idAhead_pos (l := l) (i := i) (j := (((i : Nat) : Int) - 1).toNat) (by omega) (by omega) hy98
            exact ⟨ret_bool (rightP_no (pinsUp_no (last := idAhead l i) (by assumption) (by assumption) (fun hq => by omega))), hB25⟩
      ·
        rw [hc39] at h38
        have hp166 : y30.1 < 1 := of_decide_eq_true hc39
        clear hc39
        refine dr_skip (i := 7) h38 rfl (by kernel_rfl) (by kernel_rfl) (by kernel_rfl) rfl rfl rfl rfl (fun a167 h167 => ?_); clear h38
        refine dr_skip (i := 8) h167 rfl (by kernel_rfl) (by kernel_rfl) (by kernel_rfl) rfl rfl rfl rfl (fun a168 h168 => ?_); clear h167
        refine dr_skip (i := 9) h168 rfl (by kernel_rfl) (by kernel_rfl) (by kernel_rfl) rfl rfl rfl rfl (fun a169 h169 => ?_); clear h168
        refine dr_skip (i := 10) h169 rfl (by kernel_rfl) (by kernel_rfl) (by kernel_rfl) rfl rfl rfl rfl (fun a170 h170 => ?_); clear h169
        refine dr_skip (i := 11) h170 rfl (by kernel_rfl) (by kernel_rfl) (by kernel_rfl) rfl rfl rfl rfl (fun a171 h171 => ?_); clear h170
        refine dr_skip (i := 12) h171 rfl (by kernel_rfl) (by kernel_rfl) (by kernel_rfl) rfl rfl rfl rfl (fun a172 h172 => ?_); clear h171
        refine dr_skip (i := 13) h172 rfl (by kernel_rfl) (by kernel_rfl) (by kernel_rfl) rfl rfl rfl rfl (fun a173 h173 => ?_); clear h172
        refine dr_skip (i := 14) h173 rfl (by kernel_rfl) (by kernel_rfl) (by kernel_rfl) rfl rfl rfl rfl (fun a174 h174 => ?_); clear h173
        refine dr_skip (i := 15) h174 rfl (by kernel_rfl) (by kernel_rfl) (by kernel_rfl) rfl rfl rfl rfl (fun a175 h175 => ?_); clear h174
        refine dr_skip (i := 16) h175 rfl (by kernel_rfl) (by kernel_rfl) (by kernel_rfl) rfl rfl rfl rfl (fun a176 h176 => ?_); clear h175
        refine dr_skip (i := 17) h176 rfl (by kernel_rfl) (by kernel_rfl) (by kernel_rfl) rfl rfl rfl rfl (fun a177 h177 => ?_); clear h176
        refine dr_skip (i := 18) h177 rfl (by kernel_rfl) (by kernel_rfl) (by kernel_rfl) rfl rfl rfl rfl (fun a178 h178 => ?_); clear h177
        refine dr_skip (i := 19) h178 rfl (by kernel_rfl) (by kernel_rfl) (by kernel_rfl) rfl rfl rfl rfl (fun a179 h179 => ?_); clear h178
        refine dr_skip (i := 20) h179 rfl (by kernel_rfl) (by kernel_rfl) (by kernel_rfl) rfl rfl rfl rfl (fun a180 h180 => ?_); clear h179
        refine dr_skip (i := 21) h180 rfl (by kernel_rfl) (by kernel_rfl) (by kernel_rfl) rfl rfl rfl rfl (fun a181 h181 => ?_); clear h180
        refine dr_skip (i := 22) h181 rfl (by kernel_rfl) (by kernel_rfl) (by kernel_rfl) rfl rfl rfl rfl (fun a182 h182 => ?_); clear h181
        refine dr_take (i := 23) (v := .bool true) h182 rfl (by kernel_rfl) (by kernel_rfl) (by kernel_rfl) rfl rfl rfl rfl (by kernel_rfl) (fun _ _ => by kernel_rfl) (fun a183 h183 => ?_); clear h182
        refine dr_take (i := 24) (v := .bool true) h183 rfl (by kernel_rfl) (by kernel_rfl) (by kernel_rfl) rfl rfl rfl rfl (by kernel_rfl) (fun _ _ => by kernel_rfl) (fun a184 h184 => ?_); clear h183
        refine dr_skip (i := 25) h184 rfl (by kernel_rfl) (by kernel_rfl) (by kernel_rfl) rfl rfl rfl rfl (fun a185 h185 => ?_); clear h184
        refine dr_skip (i := 26) h185 rfl (by kernel_rfl) (by kernel_rfl) (by kernel_rfl) rfl rfl rfl rfl (fun a186 h186 => ?_); clear h185
        refine dr_skip (i := 27) h186 rfl (by kernel_rfl) (by kernel_rfl) (by kernel_rfl) rfl rfl rfl rfl (fun a187 h187 => ?_); clear h186
        refine dr_skip (i := 28) h187 rfl (by kernel_rfl) (by kernel_rfl) (by kernel_rfl) rfl rfl rfl rfl (fun a188 h188 => ?_); clear h187
        refine dr_skip (i := 29) h188 rfl (by kernel_rfl) (by kernel_rfl) (by kernel_rfl) rfl rfl rfl rfl (fun a189 h189 => ?_); clear h188
        refine dr_skip (i := 30) h189 rfl (by kernel_rfl) (by kernel_rfl) (by kernel_rfl) rfl rfl rfl rfl (fun a190 h190 => ?_); clear h189
        refine dr_take (i := 31) (v := .bool true) h190 rfl (by kernel_rfl) (by kernel_rfl) (by kernel_rfl) rfl rfl rfl rfl (by kernel_rfl) (fun _ _ => by kernel_rfl) (fun a191 h191 => ?_); clear h190
        refine dr_take (i := 32) (v := .bool true) h191 rfl (by kernel_rfl) (by kernel_rfl) (by kernel_rfl) rfl rfl rfl rfl (by kernel_rfl) (fun _ _ => by kernel_rfl) (fun a192 h192 => ?_); clear h191
        refine dr_skip (i := 33) h192 rfl (by kernel_rfl) (by kernel_rfl) (by kernel_rfl) rfl rfl rfl rfl (fun a193 h193 => ?_); clear h192
        refine dr_skip (i := 34) h193 rfl (by kernel_rfl) (by kernel_rfl) (by kernel_rfl) rfl rfl rfl rfl (fun a194 h194 => ?_); clear h193
        refine dr_skip (i := 35) h194 rfl (by kernel_rfl) (by kernel_rfl) (by kernel_rfl) rfl rfl rfl rfl (fun a195 h195 => ?_); clear h194
        refine dr_skip (i := 36) h195 rfl (by kernel_rfl) (by kernel_rfl) (by kernel_rfl) rfl rfl rfl rfl (fun a196 h196 => ?_); clear h195
        refine dr_skip (i := 37) h196 rfl (by kernel_rfl) (by kernel_rfl) (by kernel_rfl) rfl rfl rfl rfl (fun a197 h197 => ?_); clear h196
        refine dr_skip (i := 38) h197 rfl (by kernel_rfl) (by kernel_rfl) (by kernel_rfl) rfl rfl rfl rfl (fun a198 h198 => ?_); clear h197
        refine dr_take (i := 39) (v := .bool true) h198 rfl (by kernel_rfl) (by kernel_rfl) (by kernel_rfl) rfl rfl rfl rfl (by kernel_rfl) (fun _ _ => by kernel_rfl) (fun a199 h199 => ?_); clear h198
        refine dr_done (by kernel_rfl) ?_
        refine co_then ?_
        refine co_true h199 rfl ?_
        refine co_seq ?_
        refine co_reg ?_
        refine pl_val (v := .bool false) h199 rfl rfl rfl (by kernel_rfl) (by kernel_rfl) (by kernel_rfl) (fun a200 h200 => ?_); clear h199
        refine pl_nil ?_
        refine co_then ?_
        refine wp_ret ?_
        refine co_blockR ?_
        refine co_thenR ?_
        refine co_thenR ?_
        refine co_blockR ?_
        refine co_thenR ?_
        refine co_ret1 h200 rfl rfl ?_
        exact ⟨ret_bool (rightP_no (pinsUp_no (last := idAhead l i) (by assumption) (by assumption) (fun hq => by omega))), hB25⟩
set_option maxRecDepth 100000 in
theorem leaseMin_any (v : Value) (l : List PinT) (w : World) (hs : SliceOf pinE 3 w v l) (hok : ∀ z ∈ l, pinOk z) :
    Calls Try.prog 44 #[v] w fun e w' => e = .returned (.tuple #[.int .u64 (minP l), .bool (decide (0 < (l.length : Int)))]) ∧ Below w.heap.size w w' := by
  have hB0 := Below.refl w.heap.size w
  have hl_hs := sl_len hs
  refine co_enter (n := 26) Try.func44 rfl rfl rfl [(0, v)] rfl (fun a h0 => ?_)
  refine co_seq ?_
  refine co_reg ?_
  refine pl_val (v := .int .u64 0) h0 rfl rfl rfl (by kernel_rfl) (by kernel_rfl) (by kernel_rfl) (fun a1 h1 => ?_); clear h0
  refine pl_val (v := .bool false) h1 rfl rfl rfl (by kernel_rfl) (by kernel_rfl) (by kernel_rfl) (fun a2 h2 => ?_); clear h1
  refine pl_nil ?_
  refine co_then ?_
  refine co_seq ?_
  refine co_seq ?_
  refine co_reg ?_
  refine pl_val (v := v) h2 rfl rfl rfl (by kernel_rfl) (by kernel_rfl) (by kernel_rfl) (fun a3 h3 => ?_); clear h2
  refine pl_val (v := .int .i64 ((l.length : Nat) : Int)) h3 rfl rfl rfl (by kernel_rfl) (by kernel_rfl) (rn_len rfl rfl Try.underlying77 hs) (fun a4 h4 => ?_); clear h3
  refine pl_val (v := .bool (((l.length : Nat) : Int) == 0)) h4 rfl rfl rfl (by kernel_rfl) (by kernel_rfl) (by kernel_rfl) (fun a5 h5 => ?_); clear h4
  refine pl_nil ?_
  refine co_then ?_
  cases hc6 : (((l.length : Nat) : Int) == 0)
  ·
    rw [hc6] at h5
    have hp7 : ¬ (((l.length : Nat) : Int) = 0) := by first | simpa using hc6 | simpa [and_assoc] using hc6
    clear hc6
    refine co_false h5 rfl ?_
    refine wp_skip ?_
    refine co_then ?_
    refine co_seq ?_
    refine co_reg ?_
    refine pl_val (v := v) h5 rfl rfl rfl (by kernel_rfl) (by kernel_rfl) (by kernel_rfl) (fun a8 h8 => ?_); clear h5
    obtain ⟨y9, hy9⟩ : ∃ z, l[0]? = some z := ⟨_, List.getElem?_eq_getElem (by first | omega | (simp; done) | (simp; omega))⟩
    have oky9 := hok _ (List.mem_of_getElem? hy9)
    have k10 : -9223372036854775808 ≤ y9.1 ∧ y9.1 ≤ 9223372036854775807 := (wf_i64 oky9.1)
    have k11 : 0 ≤ y9.2.1 ∧ y9.2.1 < 18446744073709551616 := (wf_u64 oky9.2.1)
    have k12 : -9223372036854775808 ≤ y9.2.2 ∧ y9.2.2 ≤ 9223372036854775807 := (wf_i64 oky9.2.2)
    refine pl_val (v := .pointer (some ⟨(blkOf v), offOf v + 0 * 3, none⟩)) h8 rfl rfl rfl (by kernel_rfl) (by kernel_rfl) (rn_index rfl rfl rfl Try.underlying77 Try.sizeOf46 hs (by omega) (by first | omega | (simp; done) | (simp; omega))) (fun a13 h13 => ?_); clear h8
    refine pl_val (v := .pointer (some ⟨(blkOf v), offOf v + 0 * 3 + 1, none⟩)) h13 rfl rfl rfl (by kernel_rfl) (by kernel_rfl) (by kernel_rfl) (fun a14 h14 => ?_); clear h13
    refine pl_val (v := .int .u64 y9.2.1) h14 rfl rfl rfl (by kernel_rfl) (by kernel_rfl) (rn_load1 rfl rfl Try.isAgg27 ((sl_at hs hy9) 1 _ rfl)) (fun a15 h15 => ?_); clear h14
    refine pl_val (v := .int .u64 y9.2.1) h15 rfl rfl rfl (by kernel_rfl) (by kernel_rfl) (by kernel_rfl) (fun a16 h16 => ?_); clear h15
    refine pl_nil ?_
    refine co_then ?_
    refine co_seq ?_
    refine co_seq ?_
    refine co_reg ?_
    refine pl_val (v := v) h16 rfl rfl rfl (by kernel_rfl) (by kernel_rfl) (by kernel_rfl) (fun a17 h17 => ?_); clear h16
    refine pl_val (v := .int .i64 ((l.length : Nat) : Int)) h17 rfl rfl rfl (by kernel_rfl) (by kernel_rfl) (rn_len rfl rfl Try.underlying77 hs) (fun a18 h18 => ?_); clear h17
    refine pl_val (v := .int .i64 0) h18 rfl rfl rfl (by kernel_rfl) (by kernel_rfl) (by kernel_rfl) (fun a19 h19 => ?_); clear h18
    refine pl_nil ?_
    refine co_then ?_
    refine wp_block ?_
    have h20 : Slots 26 [(0, v), (2, .int .u64 0), (3, .bool false), (4, .int .u64 y9.2.1), (14, v), (15, .int .i64 ((l.length : Nat) : Int)), (16, .int .i64 0)] _ := h19.sub ⟨rfl, rfl, rfl, rfl, rfl, rfl, rfl, trivial⟩; clear h19
    refine co_loop (fun mm a x => ∃ (i : Nat) (mn : Int), Slots 26 [(0, v), (2, .int .u64 0), (3, .bool false), (4, .int .u64 mn), (14, v), (15, .int .i64 ((l.length : Nat) : Int)), (16, .int .i64 ((i : Nat) : Int))] a ∧ mm = l.length - i ∧ (i ≤ l.length) ∧ (0 < l.length) ∧ (0 ≤ mn ∧ mn < 18446744073709551616) ∧ (MinInv l i mn) ∧ Below w.heap.size w x) (l.length - 0) ?_ ?_
    · exact ⟨0, y9.2.1, h20.sub ⟨rfl, rfl, rfl, rfl, rfl, rfl, (slot_eq rfl (congrArg (Value.int .i64) (by first | rfl | omega))), trivial⟩, rfl, by omega, by omega, by omega, by first | exact MinInv.start (by assumption) | exact MinInv.step (by assumption) (by assumption) (by first | rw [if_pos (by omega)] | rw [if_neg (by omega)]), hB0⟩
    · rintro k21 a22 w23 ⟨i, mn, h22, rfl, hi24, hi25, hi26, hi27, hB28⟩
      have hz29 := hB28.size
      refine co_seq ?_
      refine co_reg ?_
      refine pl_val (v := .bool (decide (((i : Nat) : Int) < ((l.length : Nat) : Int)))) h22 rfl rfl rfl (by kernel_rfl) (by kernel_rfl) (by kernel_rfl) (fun a30 h30 => ?_); clear h22
      refine pl_nil ?_
      refine co_then ?_
      refine co_seq ?_
      cases hc31 : (decide (((i : Nat) : Int) < ((l.length : Nat) : Int)))
      ·
        rw [hc31] at h30
        have hp32 : ¬ (((i : Nat) : Int) < ((l.length : Nat) : Int)) := of_decide_eq_false hc31
        clear hc31
        refine co_false h30 rfl ?_
        refine wp_exit ?_
        refine co_thenX ?_
        refine co_thenX ?_
        refine co_blockX ?_
        refine co_then ?_
        refine co_seq ?_
        refine co_reg ?_
        refine pl_val (v := .int .u64 mn) h30 rfl rfl rfl (by kernel_rfl) (by kernel_rfl) (by kernel_rfl) (fun a33 h33 => ?_); clear h30
        refine pl_val (v := .int .u64 mn) h33 rfl rfl rfl (by kernel_rfl) (by kernel_rfl) (by kernel_rfl) (fun a34 h34 => ?_); clear h33
        refine pl_val (v := .bool true) h34 rfl rfl rfl (by kernel_rfl) (by kernel_rfl) (by kernel_rfl) (fun a35 h35 => ?_); clear h34
        refine pl_nil ?_
        refine co_then ?_
        refine wp_ret ?_
        refine co_ret2 h35 rfl rfl rfl ?_
        exact ⟨by rw [MinInv.end (l := l) (i := i) (mn := mn) (by assumption) (by omega) (by omega), decide_eq_true (show 0 < (l.length : Int) by omega)], hB28⟩
      ·
        rw [hc31] at h30
        have hp36 : ((i : Nat) : Int) < ((l.length : Nat) : Int) := of_decide_eq_true hc31
        clear hc31
        refine co_true h30 rfl ?_
        refine wp_skip ?_
        refine co_then ?_
        refine co_seq ?_
        refine wp_block ?_
        refine co_seq ?_
        refine co_reg ?_
        obtain ⟨y37, hy37⟩ : ∃ z, l[i]? = some z := ⟨_, List.getElem?_eq_getElem (by first | omega | (simp; done) | (simp; omega))⟩
        have oky37 := hok _ (List.mem_of_getElem? hy37)
        have k38 : -9223372036854775808 ≤ y37.1 ∧ y37.1 ≤ 9223372036854775807 := (wf_i64 oky37.1)
        have k39 : 0 ≤ y37.2.1 ∧ y37.2.1 < 18446744073709551616 := (wf_u64 oky37.2.1)
        have k40 : -9223372036854775808 ≤ y37.2.2 ∧ y37.2.2 ≤ 9223372036854775807 := (wf_i64 oky37.2.2)
        refine pl_val (v := .pointer (some ⟨(blkOf v), offOf v + i * 3, none⟩)) h30 rfl rfl rfl (by kernel_rfl) (by kernel_rfl) (rn_index rfl rfl rfl Try.underlying77 Try.sizeOf46 (hs.below hB28) (by omega) (by first | omega | (simp; done) | (simp; omega))) (fun a41 h41 => ?_); clear h30
        refine pl_val (v := .agg #[.int .i64 y37.1, .int .u64 y37.2.1, .int .i64 y37.2.2]) h41 rfl rfl rfl (by kernel_rfl) (by kernel_rfl) (rn_loadN rfl rfl Try.underlying46 rfl (by kernel_rfl) (sl_at (hs.below hB28) hy37)) (fun a42 h42 => ?_); clear h41
        refine pl_want h42 rfl rfl rfl (op_new (v := fun N => .pointer (some ⟨N, 0, none⟩)) (T := 46) (cs := #[.int .i64 0, .int .u64 0, .int .i64 0]) (by kernel_rfl) (by kernel_rfl) (by kernel_rfl)) ?_; clear h42
        rintro _ w44 a43 ⟨N45, rfl, hN48, hz49, hk47, hg46⟩ h43
        have hB50 := hb_new hB28 hg46
        have hz51 := hB50.size
        have hz52 := hg46.size
        try dsimp only at h43
        refine pl_doW h43 rfl rfl (op_storeN rfl rfl rfl (by kernel_rfl) (by kernel_rfl) hk47 rfl) ?_; clear h43
        rintro _ w54 a53 ⟨hk55, hz56, hg57⟩ h53
        have hk55' : Blk w54 N45 46 #[.int .i64 y37.1, .int .u64 y37.2.1, .int .i64 y37.2.2] := hk55; clear hk55
        have hB58 := hb_at hB50 hg57 (by omega)
        have hz59 := hB58.size
        have hz60 := hg57.size
        refine pl_nil ?_
        refine co_then ?_
        refine co_reg ?_
        refine pl_val (v := .int .u64 mn) h53 rfl rfl rfl (by kernel_rfl) (by kernel_rfl) (by kernel_rfl) (fun a61 h61 => ?_); clear h53
        refine pl_val (v := .pointer (some ⟨N45, 1, none⟩)) h61 rfl rfl rfl (by kernel_rfl) (by kernel_rfl) (by kernel_rfl) (fun a62 h62 => ?_); clear h61
        refine pl_val (v := .int .u64 y37.2.1) h62 rfl rfl rfl (by kernel_rfl) (by kernel_rfl) (rn_load1 rfl rfl Try.isAgg27 (hk55'.cell rfl)) (fun a63 h63 => ?_); clear h62
        by_cases hs64 : y37.2.1 < mn
        ·
          refine pl_val (v := .int .u64 y37.2.1) h63 rfl rfl rfl (by kernel_rfl) (by kernel_rfl) (rn_min2 rfl rfl rfl rfl (by omega)) (fun a65 h65 => ?_); clear h63
          refine pl_val (v := .int .u64 y37.2.1) h65 rfl rfl rfl (by kernel_rfl) (by kernel_rfl) (by kernel_rfl) (fun a66 h66 => ?_); clear h65
          refine pl_nil ?_
          refine co_blockN ?_
          refine co_then ?_
          refine co_reg ?_
          refine pl_val (v := .int .i64 ((i + 1 : Nat) : Int)) h66 rfl rfl rfl (by kernel_rfl) (by kernel_rfl) (rn_arith' rfl rfl rfl rfl rfl rfl (IntWalk.i64_in _ (by omega)) (by omega)) (fun a67 h67 => ?_); clear h66
          refine pl_val (v := .int .i64 ((i + 1 : Nat) : Int)) h67 rfl rfl rfl (by kernel_rfl) (by kernel_rfl) (by kernel_rfl) (fun a68 h68 => ?_); clear h67
          refine pl_nil ?_
          refine co_then ?_
          refine ⟨(l.length - (i + 1)), by omega, ?_⟩
          exact ⟨i + 1, y37.2.1, h68.sub ⟨rfl, rfl, rfl, rfl, rfl, rfl, rfl, trivial⟩, rfl, by omega, by omega, by omega, by first | exact MinInv.start (by assumption) | exact MinInv.step (by assumption) (by assumption) (by first | rw [if_pos (by omega)] | rw [if_neg (by omega)]), hB58⟩
        ·
          refine pl_val (v := .int .u64 mn) h63 rfl rfl rfl (by kernel_rfl) (by kernel_rfl) (rn_min1 rfl rfl rfl rfl (by omega)) (fun a69 h69 => ?_); clear h63
          refine pl_val (v := .int .u64 mn) h69 rfl rfl rfl (by kernel_rfl) (by kernel_rfl) (by kernel_rfl) (fun a70 h70 => ?_); clear h69
          refine pl_nil ?_
          refine co_blockN ?_
          refine co_then ?_
          refine co_reg ?_
          refine pl_val (v := .int .i64 ((i + 1 : Nat) : Int)) h70 rfl rfl rfl (by kernel_rfl) (by kernel_rfl) (rn_arith' rfl rfl rfl rfl rfl rfl (IntWalk.i64_in _ (by omega)) (by omega)) (fun a71 h71 => ?_); clear h70
          refine pl_val (v := .int .i64 ((i + 1 : Nat) : Int)) h71 rfl rfl rfl (by kernel_rfl) (by kernel_rfl) (by kernel_rfl) (fun a72 h72 => ?_); clear h71
          refine pl_nil ?_
          refine co_then ?_
          refine ⟨(l.length - (i + 1)), by omega, ?_⟩
          exact ⟨i + 1, mn, h72.sub ⟨rfl, rfl, rfl, rfl, rfl, rfl, rfl, trivial⟩, rfl, by omega, by omega, by omega, by first | exact MinInv.start (by assumption) | exact MinInv.step (by assumption) (by assumption) (by first | rw [if_pos (by omega)] | rw [if_neg (by omega)]), hB58⟩
  ·
    rw [hc6] at h5
    have hp73 : ((l.length : Nat) : Int) = 0 := by first | simpa using hc6 | simpa [and_assoc] using hc6
    clear hc6
    refine co_true h5 rfl ?_
    refine co_seq ?_
    refine co_reg ?_
    refine pl_val (v := .int .u64 0) h5 rfl rfl rfl (by kernel_rfl) (by kernel_rfl) (by kernel_rfl) (fun a74 h74 => ?_); clear h5
    refine pl_val (v := .bool false) h74 rfl rfl rfl (by kernel_rfl) (by kernel_rfl) (by kernel_rfl) (fun a75 h75 => ?_); clear h74
    refine pl_nil ?_
    refine co_then ?_
    refine wp_ret ?_
    refine co_thenR ?_
    refine co_ret2 h75 rfl rfl rfl ?_
    obtain rfl : l = [] := List.eq_nil_of_length_eq_zero (by omega)
    exact ⟨rfl, hB0⟩
set_option maxRecDepth 100000 in
theorem rleaseMin_any (v : Value) (l : List PinT) (w : World) (hs : SliceOf pinE 3 w v l) (hok : ∀ z ∈ l, pinOk z) :
    Calls Try.prog 45 #[v] w fun e w' => e = .returned (.tuple #[.int .u64 (minP l), .bool (decide (0 < (l.length : Int)))]) ∧ Below w.heap.size w w' := by
  have hB0 := Below.refl w.heap.size w
  have hl_hs := sl_len hs
  refine co_enter (n := 32) Try.func45 rfl rfl rfl [(0, v)] rfl (fun a h0 => ?_)
  refine co_seq ?_
  refine co_reg ?_
  refine pl_val (v := .int .u64 0) h0 rfl rfl rfl (by kernel_rfl) (by kernel_rfl) (by kernel_rfl) (fun a1 h1 => ?_); clear h0
  refine pl_val (v := .bool false) h1 rfl rfl rfl (by kernel_rfl) (by kernel_rfl) (by kernel_rfl) (fun a2 h2 => ?_); clear h1
  refine pl_nil ?_
  refine co_then ?_
  refine co_seq ?_
  refine co_reg ?_
  refine pl_val (v := .int .u64 0) h2 rfl rfl rfl (by kernel_rfl) (by kernel_rfl) (by kernel_rfl) (fun a3 h3 => ?_); clear h2
  refine pl_nil ?_
  refine co_then ?_
  refine co_seq ?_
  refine co_seq ?_
  refine co_reg ?_
  refine pl_val (v := .int .i64 0) h3 rfl rfl rfl (by kernel_rfl) (by kernel_rfl) (by kernel_rfl) (fun a4 h4 => ?_); clear h3
  refine pl_nil ?_
  refine co_then ?_
  refine wp_block ?_
  have h5 : Slots 32 [(0, v), (2, .int .u64 0), (3, .bool false), (4, .int .u64 0), (5, .int .i64 0)] _ := h4.sub ⟨rfl, rfl, rfl, rfl, rfl, trivial⟩; clear h4
  refine co_loop (fun mm a x => ∃ (i : Nat), Slots 32 [(0, v), (2, .int .u64 0), (3, .bool false), (4, .int .u64 (minP (l.take i))), (5, .int .i64 ((i : Nat) : Int))] a ∧ mm = l.length - i ∧ (i ≤ l.length) ∧ Below w.heap.size w x) (l.length - 0) ?_ ?_
  · exact ⟨0, h5.sub ⟨rfl, rfl, rfl, (slot_eq rfl (congrArg (Value.int .u64) (by first | rfl | (rw [minP_at (by assumption) (by omega), if_pos (by omega)]) | (rw [minP_at (by assumption) (by omega), if_neg (by omega)]) | ((have e0 : i = 0 := (by omega)); subst e0; rw [minP_one (by assumption)])))), (slot_eq rfl (congrArg (Value.int .i64) (by first | rfl | omega))), trivial⟩, rfl, by omega, hB0⟩
  · rintro k6 a7 w8 ⟨i, h7, rfl, hi9, hB10⟩
    have hz11 := hB10.size
    refine co_seq ?_
    refine co_seq ?_
    refine co_reg ?_
    refine pl_val (v := .int .i64 ((i : Nat) : Int)) h7 rfl rfl rfl (by kernel_rfl) (by kernel_rfl) (by kernel_rfl) (fun a12 h12 => ?_); clear h7
    refine pl_val (v := v) h12 rfl rfl rfl (by kernel_rfl) (by kernel_rfl) (by kernel_rfl) (fun a13 h13 => ?_); clear h12
    refine pl_val (v := .int .i64 ((l.length : Nat) : Int)) h13 rfl rfl rfl (by kernel_rfl) (by kernel_rfl) (rn_len rfl rfl Try.underlying77 (hs.below hB10)) (fun a14 h14 => ?_); clear h13
    refine pl_val (v := .bool (decide (((i : Nat) : Int) < ((l.length : Nat) : Int)))) h14 rfl rfl rfl (by kernel_rfl) (by kernel_rfl) (by kernel_rfl) (fun a15 h15 => ?_); clear h14
    refine pl_nil ?_
    refine co_then ?_
    cases hc16 : (decide (((i : Nat) : Int) < ((l.length : Nat) : Int)))
    ·
      rw [hc16] at h15
      have hp17 : ¬ (((i : Nat) : Int) < ((l.length : Nat) : Int)) := of_decide_eq_false hc16
      clear hc16
      refine co_false h15 rfl ?_
      refine wp_exit ?_
      refine co_thenX ?_
      refine co_thenX ?_
      refine co_blockX ?_
      refine co_then ?_
      refine co_seq ?_
      refine co_reg ?_
      refine pl_val (v := .int .u64 (minP (l.take i))) h15 rfl rfl rfl (by kernel_rfl) (by kernel_rfl) (by kernel_rfl) (fun a18 h18 => ?_); clear h15
      refine pl_val (v := v) h18 rfl rfl rfl (by kernel_rfl) (by kernel_rfl) (by kernel_rfl) (fun a19 h19 => ?_); clear h18
      refine pl_val (v := .int .i64 ((l.length : Nat) : Int)) h19 rfl rfl rfl (by kernel_rfl) (by kernel_rfl) (rn_len rfl rfl Try.underlying77 (hs.below hB10)) (fun a20 h20 => ?_); clear h19
      refine pl_val (v := .bool (decide (((l.length : Nat) : Int) > 0))) h20 rfl rfl rfl (by kernel_rfl) (by kernel_rfl) (by kernel_rfl) (fun a21 h21 => ?_); clear h20
      refine pl_val (v := .int .u64 (minP (l.take i))) h21 rfl rfl rfl (by kernel_rfl) (by kernel_rfl) (by kernel_rfl) (fun a22 h22 => ?_); clear h21
      refine pl_val (v := .bool (decide (((l.length : Nat) : Int) > 0))) h22 rfl rfl rfl (by kernel_rfl) (by kernel_rfl) (by kernel_rfl) (fun a23 h23 => ?_); clear h22
      refine pl_nil ?_
      refine co_then ?_
      refine wp_ret ?_
      refine co_ret2 h23 rfl rfl rfl ?_
      have hm := minP_all (l := l) (i := i) (by omega)
      exact ⟨by rw [hm], hB10⟩
    ·
      rw [hc16] at h15
      have hp24 : ((i : Nat) : Int) < ((l.length : Nat) : Int) := of_decide_eq_true hc16
      clear hc16
      refine co_true h15 rfl ?_
      refine wp_skip ?_
      refine co_then ?_
      refine co_seq ?_
      refine wp_block ?_
      refine co_seq ?_
      refine co_reg ?_
      refine pl_val (v := .int .i64 ((i : Nat) : Int)) h15 rfl rfl rfl (by kernel_rfl) (by kernel_rfl) (by kernel_rfl) (fun a25 h25 => ?_); clear h15
      refine pl_val (v := .bool (((i : Nat) : Int) == 0)) h25 rfl rfl rfl (by kernel_rfl) (by kernel_rfl) (by kernel_rfl) (fun a26 h26 => ?_); clear h25
      refine pl_val (v := .bool (((i : Nat) : Int) == 0)) h26 rfl rfl rfl (by kernel_rfl) (by kernel_rfl) (by kernel_rfl) (fun a27 h27 => ?_); clear h26
      cases hc28 : (((i : Nat) : Int) == 0)
      ·
        rw [hc28] at h27
        have hp29 : ¬ (((i : Nat) : Int) = 0) := by first | simpa using hc28 | simpa [and_assoc] using hc28
        clear hc28
        refine pl_val (v := v) h27 rfl rfl rfl (by kernel_rfl) (by kernel_rfl) (by kernel_rfl) (fun a30 h30 => ?_); clear h27
        refine pl_val (v := .int .i64 ((i : Nat) : Int)) h30 rfl rfl rfl (by kernel_rfl) (by kernel_rfl) (by kernel_rfl) (fun a31 h31 => ?_); clear h30
        obtain ⟨y32, hy32⟩ : ∃ z, l[i]? = some z := ⟨_, List.getElem?_eq_getElem (by first | omega | (simp; done) | (simp; omega))⟩
        have oky32 := hok _ (List.mem_of_getElem? hy32)
        have k33 : -9223372036854775808 ≤ y32.1 ∧ y32.1 ≤ 9223372036854775807 := (wf_i64 oky32.1)
        have k34 : 0 ≤ y32.2.1 ∧ y32.2.1 < 18446744073709551616 := (wf_u64 oky32.2.1)
        have k35 : -9223372036854775808 ≤ y32.2.2 ∧ y32.2.2 ≤ 9223372036854775807 := (wf_i64 oky32.2.2)
        refine pl_val (v := .pointer (some ⟨(blkOf v), offOf v + i * 3, none⟩)) h31 rfl rfl rfl (by kernel_rfl) (by kernel_rfl) (rn_index rfl rfl rfl Try.underlying77 Try.sizeOf46 (hs.below hB10) (by omega) (by first | omega | (simp; done) | (simp; omega))) (fun a36 h36 => ?_); clear h31
        refine pl_val (v := .pointer (some ⟨(blkOf v), offOf v + i * 3 + 1, none⟩)) h36 rfl rfl rfl (by kernel_rfl) (by kernel_rfl) (by kernel_rfl) (fun a37 h37 => ?_); clear h36
        refine pl_val (v := .int .u64 y32.2.1) h37 rfl rfl rfl (by kernel_rfl) (by kernel_rfl) (rn_load1 rfl rfl Try.isAgg27 ((sl_at (hs.below hB10) hy32) 1 _ rfl)) (fun a38 h38 => ?_); clear h37
        refine pl_val (v := .int .u64 (minP (l.take i))) h38 rfl rfl rfl (by kernel_rfl) (by kernel_rfl) (by kernel_rfl) (fun a39 h39 => ?_); clear h38
        refine pl_val (v := .bool (decide (y32.2.1 < minP (l.take i)))) h39 rfl rfl rfl (by kernel_rfl) (by kernel_rfl) (by kernel_rfl) (fun a40 h40 => ?_); clear h39
        refine pl_val (v := .bool (decide (y32.2.1 < minP (l.take i)))) h40 rfl rfl rfl (by kernel_rfl) (by kernel_rfl) (by kernel_rfl) (fun a41 h41 => ?_); clear h40
        refine pl_nil ?_
        refine co_then ?_
        cases hc42 : (decide (y32.2.1 < minP (l.take i)))
        ·
          rw [hc42] at h41
          have hp43 : ¬ (y32.2.1 < minP (l.take i)) := of_decide_eq_false hc42
          clear hc42
          refine co_false h41 rfl ?_
          refine wp_skip ?_
          refine co_blockN ?_
          refine co_then ?_
          refine co_reg ?_
          refine pl_val (v := .int .i64 ((i : Nat) : Int)) h41 rfl rfl rfl (by kernel_rfl) (by kernel_rfl) (by kernel_rfl) (fun a44 h44 => ?_); clear h41
          refine pl_val (v := .int .i64 ((i + 1 : Nat) : Int)) h44 rfl rfl rfl (by kernel_rfl) (by kernel_rfl) (rn_arith' rfl rfl rfl rfl rfl rfl (IntWalk.i64_in _ (by omega)) (by omega)) (fun a45 h45 => ?_); clear h44
          refine pl_val (v := .int .i64 ((i + 1 : Nat) : Int)) h45 rfl rfl rfl (by kernel_rfl) (by kernel_rfl) (by kernel_rfl) (fun a46 h46 => ?_); clear h45
          refine pl_nil ?_
          refine co_then ?_
          refine ⟨(l.length - (i + 1)), by omega, ?_⟩
          exact ⟨i + 1, h46.sub ⟨rfl, rfl, rfl, (slot_eq rfl (congrArg (Value.int .u64) (by first | rfl | (rw [minP_at (by assumption) (by omega), if_pos (by omega)]) | (rw [minP_at (by assumption) (by omega), if_neg (by omega)]) | ((have e0 : i = 0 := (by omega)); subst e0; rw [minP_one (by assumption)])))), rfl, trivial⟩, rfl, by omega, hB10⟩
        ·
          rw [hc42] at h41
          have hp47 : y32.2.1 < minP (l.take i) := of_decide_eq_true hc42
          clear hc42
          refine co_true h41 rfl ?_
          refine co_reg ?_
          refine pl_val (v := v) h41 rfl rfl rfl (by kernel_rfl) (by kernel_rfl) (by kernel_rfl) (fun a48 h48 => ?_); clear h41
          refine pl_val (v := .int .i64 ((i : Nat) : Int)) h48 rfl rfl rfl (by kernel_rfl) (by kernel_rfl) (by kernel_rfl) (fun a49 h49 => ?_); clear h48
          refine pl_val (v := .pointer (some ⟨(blkOf v), offOf v + i * 3, none⟩)) h49 rfl rfl rfl (by kernel_rfl) (by kernel_rfl) (rn_index rfl rfl rfl Try.underlying77 Try.sizeOf46 (hs.below hB10) (by omega) (by first | omega | (simp; done) | (simp; omega))) (fun a50 h50 => ?_); clear h49
          refine pl_val (v := .pointer (some ⟨(blkOf v), offOf v + i * 3 + 1, none⟩)) h50 rfl rfl rfl (by kernel_rfl) (by kernel_rfl) (by kernel_rfl) (fun a51 h51 => ?_); clear h50
          refine pl_val (v := .int .u64 y32.2.1) h51 rfl rfl rfl (by kernel_rfl) (by kernel_rfl) (rn_load1 rfl rfl Try.isAgg27 ((sl_at (hs.below hB10) hy32) 1 _ rfl)) (fun a52 h52 => ?_); clear h51
          refine pl_val (v := .int .u64 y32.2.1) h52 rfl rfl rfl (by kernel_rfl) (by kernel_rfl) (by kernel_rfl) (fun a53 h53 => ?_); clear h52
          refine pl_nil ?_
          refine co_blockN ?_
          refine co_then ?_
          refine co_reg ?_
          refine pl_val (v := .int .i64 ((i : Nat) : Int)) h53 rfl rfl rfl (by kernel_rfl) (by kernel_rfl) (by kernel_rfl) (fun a54 h54 => ?_); clear h53
          refine pl_val (v := .int .i64 ((i + 1 : Nat) : Int)) h54 rfl rfl rfl (by kernel_rfl) (by kernel_rfl) (rn_arith' rfl rfl rfl rfl rfl rfl (IntWalk.i64_in _ (by omega)) (by omega)) (fun a55 h55 => ?_); clear h54
          refine pl_val (v := .int .i64 ((i + 1 : Nat) : Int)) h55 rfl rfl rfl (by kernel_rfl) (by kernel_rfl) (by kernel_rfl) (fun a56 h56 => ?_); clear h55
          refine pl_nil ?_
          refine co_then ?_
          refine ⟨(l.length - (i + 1)), by omega, ?_⟩
          exact ⟨i + 1, h56.sub ⟨rfl, rfl, rfl, (slot_eq rfl (congrArg (Value.int .u64) (by first | rfl | (rw [minP_at (by assumption) (by omega), if_pos (by omega)]) | (rw [minP_at (by assumption) (by omega), if_neg (by omega)]) | ((have e0 : i = 0 := (by omega)); subst e0; rw [minP_one (by assumption)])))), rfl, trivial⟩, rfl, by omega, hB10⟩
      ·
        rw [hc28] at h27
        have hp57 : ((i : Nat) : Int) = 0 := by first | simpa using hc28 | simpa [and_assoc] using hc28
        clear hc28
        refine pl_skip h27 rfl rfl rfl (fun a58 h58 => ?_); clear h27
        refine pl_skip h58 rfl rfl rfl (fun a59 h59 => ?_); clear h58
        refine pl_skip h59 rfl rfl rfl (fun a60 h60 => ?_); clear h59
        refine pl_skip h60 rfl rfl rfl (fun a61 h61 => ?_); clear h60
        refine pl_skip h61 rfl rfl rfl (fun a62 h62 => ?_); clear h61
        refine pl_skip h62 rfl rfl rfl (fun a63 h63 => ?_); clear h62
        refine pl_skip h63 rfl rfl rfl (fun a64 h64 => ?_); clear h63
        refine pl_val (v := .bool true) h64 rfl rfl rfl (by kernel_rfl) (by kernel_rfl) (by kernel_rfl) (fun a65 h65 => ?_); clear h64
        refine pl_nil ?_
        refine co_then ?_
        refine co_true h65 rfl ?_
        refine co_reg ?_
        refine pl_val (v := v) h65 rfl rfl rfl (by kernel_rfl) (by kernel_rfl) (by kernel_rfl) (fun a66 h66 => ?_); clear h65
        refine pl_val (v := .int .i64 ((i : Nat) : Int)) h66 rfl rfl rfl (by kernel_rfl) (by kernel_rfl) (by kernel_rfl) (fun a67 h67 => ?_); clear h66
        obtain ⟨y68, hy68⟩ : ∃ z, l[i]? = some z := ⟨_, List.getElem?_eq_getElem (by first | omega | (simp; done) | (simp; omega))⟩
        have oky68 := hok _ (List.mem_of_getElem? hy68)
        have k69 : -9223372036854775808 ≤ y68.1 ∧ y68.1 ≤ 9223372036854775807 := (wf_i64 oky68.1)
        have k70 : 0 ≤ y68.2.1 ∧ y68.2.1 < 18446744073709551616 := (wf_u64 oky68.2.1)
        have k71 : -9223372036854775808 ≤ y68.2.2 ∧ y68.2.2 ≤ 9223372036854775807 := (wf_i64 oky68.2.2)
        refine pl_val (v := .pointer (some ⟨(blkOf v), offOf v + i * 3, none⟩)) h67 rfl rfl rfl (by kernel_rfl) (by kernel_rfl) (rn_index rfl rfl rfl Try.underlying77 Try.sizeOf46 (hs.below hB10) (by omega) (by first | omega | (simp; done) | (simp; omega))) (fun a72 h72 => ?_); clear h67
        refine pl_val (v := .pointer (some ⟨(blkOf v), offOf v + i * 3 + 1, none⟩)) h72 rfl rfl rfl (by kernel_rfl) (by kernel_rfl) (by kernel_rfl) (fun a73 h73 => ?_); clear h72
        refine pl_val (v := .int .u64 y68.2.1) h73 rfl rfl rfl (by kernel_rfl) (by kernel_rfl) (rn_load1 rfl rfl Try.isAgg27 ((sl_at (hs.below hB10) hy68) 1 _ rfl)) (fun a74 h74 => ?_); clear h73
        refine pl_val (v := .int .u64 y68.2.1) h74 rfl rfl rfl (by kernel_rfl) (by kernel_rfl) (by kernel_rfl) (fun a75 h75 => ?_); clear h74
        refine pl_nil ?_
        refine co_blockN ?_
        refine co_then ?_
        refine co_reg ?_
        refine pl_val (v := .int .i64 ((i : Nat) : Int)) h75 rfl rfl rfl (by kernel_rfl) (by kernel_rfl) (by kernel_rfl) (fun a76 h76 => ?_); clear h75
        refine pl_val (v := .int .i64 ((i + 1 : Nat) : Int)) h76 rfl rfl rfl (by kernel_rfl) (by kernel_rfl) (rn_arith' rfl rfl rfl rfl rfl rfl (IntWalk.i64_in _ (by omega)) (by omega)) (fun a77 h77 => ?_); clear h76
        refine pl_val (v := .int .i64 ((i + 1 : Nat) : Int)) h77 rfl rfl rfl (by kernel_rfl) (by kernel_rfl) (by kernel_rfl) (fun a78 h78 => ?_); clear h77
        refine pl_nil ?_
        refine co_then ?_
        refine ⟨(l.length - (i + 1)), by omega, ?_⟩
        exact ⟨i + 1, h78.sub ⟨rfl, rfl, rfl, (slot_eq rfl (congrArg (Value.int .u64) (by first | rfl | (rw [minP_at (by assumption) (by omega), if_pos (by omega)]) | (rw [minP_at (by assumption) (by omega), if_neg (by omega)]) | ((have e0 : i = 0 := (by omega)); subst e0; rw [minP_one (by assumption)])))), rfl, trivial⟩, rfl, by omega, hB10⟩
set_option maxRecDepth 100000 in
theorem rfind_any (v : Value) (l : List PinT) (id : Int) (w : World) (hs : SliceOf pinE 3 w v l) :
    Calls Try.prog 68 #[v, .int .i64 id] w fun e w' => e = .returned (.int .i64 (findP l id)) ∧ Below w.heap.size w w' := by
  have hB0 := Below.refl w.heap.size w
  have hl_hs := sl_len hs
  refine co_enter (n := 20) Try.func68 rfl rfl rfl [(0, v), (1, .int .i64 id)] rfl (fun a h0 => ?_)
  refine co_seq ?_
  refine co_reg ?_
  refine pl_val (v := .int .i64 0) h0 rfl rfl rfl (by kernel_rfl) (by kernel_rfl) (by kernel_rfl) (fun a1 h1 => ?_); clear h0
  refine pl_nil ?_
  refine co_then ?_
  refine co_seq ?_
  refine co_seq ?_
  refine co_reg ?_
  refine pl_val (v := .int .i64 0) h1 rfl rfl rfl (by kernel_rfl) (by kernel_rfl) (by kernel_rfl) (fun a2 h2 => ?_); clear h1
  refine pl_nil ?_
  refine co_then ?_
  refine wp_block ?_
  have h3 : Slots 20 [(0, v), (1, .int .i64 id), (4, .int .i64 0), (5, .int .i64 0)] _ := h2.sub ⟨rfl, rfl, rfl, rfl, trivial⟩; clear h2
  refine co_loop (fun mm a x => ∃ (i : Nat), Slots 20 [(0, v), (1, .int .i64 id), (4, .int .i64 0), (5, .int .i64 ((i : Nat) : Int))] a ∧ mm = l.length - i ∧ (i ≤ l.length) ∧ (∀ j, j < i → ∀ z, l[j]? = some z → z.1 ≠ id) ∧ Below w.heap.size w x) (l.length - 0) ?_ ?_
  · exact ⟨0, h3.sub ⟨rfl, rfl, rfl, (slot_eq rfl (congrArg (Value.int .i64) (by first | rfl | omega))), trivial⟩, rfl, by omega, by first | (intro j hj; omega) | exact none_step (by assumption) (by assumption) (by omega), hB0⟩
  · rintro k4 a5 w6 ⟨i, h5, rfl, hi7, hi8, hB9⟩
    have hz10 := hB9.size
    refine co_seq ?_
    refine co_seq ?_
    refine co_reg ?_
    refine pl_val (v := .int .i64 ((i : Nat) : Int)) h5 rfl rfl rfl (by kernel_rfl) (by kernel_rfl) (by kernel_rfl) (fun a11 h11 => ?_); clear h5
    refine pl_val (v := v) h11 rfl rfl rfl (by kernel_rfl) (by kernel_rfl) (by kernel_rfl) (fun a12 h12 => ?_); clear h11
    refine pl_val (v := .int .i64 ((l.length : Nat) : Int)) h12 rfl rfl rfl (by kernel_rfl) (by kernel_rfl) (rn_len rfl rfl Try.underlying77 (hs.below hB9)) (fun a13 h13 => ?_); clear h12
    refine pl_val (v := .bool (decide (((i : Nat) : Int) < ((l.length : Nat) : Int)))) h13 rfl rfl rfl (by kernel_rfl) (by kernel_rfl) (by kernel_rfl) (fun a14 h14 => ?_); clear h13
    refine pl_nil ?_
    refine co_then ?_
    cases hc15 : (decide (((i : Nat) : Int) < ((l.length : Nat) : Int)))
    ·
      rw [hc15] at h14
      have hp16 : ¬ (((i : Nat) : Int) < ((l.length : Nat) : Int)) := of_decide_eq_false hc15
      clear hc15
      refine co_false h14 rfl ?_
      refine wp_exit ?_
      refine co_thenX ?_
      refine co_thenX ?_
      refine co_blockX ?_
      refine co_then ?_
      refine co_seq ?_
      refine co_reg ?_
      refine pl_val (v := .int .i64 (-1)) h14 rfl rfl rfl (by kernel_rfl) (by kernel_rfl) (by kernel_rfl) (fun a17 h17 => ?_); clear h14
      refine pl_nil ?_
      refine co_then ?_
      refine wp_ret ?_
      refine co_ret1 h17 rfl rfl ?_
      exact ⟨ret_int (by first | rw [findP_at (by assumption) (by assumption) (by omega)] | rw [findP_none (i := i) (by assumption) (by omega)]), hB9⟩
    ·
      rw [hc15] at h14
      have hp18 : ((i : Nat) : Int) < ((l.length : Nat) : Int) := of_decide_eq_true hc15
      clear hc15
      refine co_true h14 rfl ?_
      refine wp_skip ?_
      refine co_then ?_
      refine co_seq ?_
      refine wp_block ?_
      refine co_seq ?_
      refine co_reg ?_
      refine pl_val (v := v) h14 rfl rfl rfl (by kernel_rfl) (by kernel_rfl) (by kernel_rfl) (fun a19 h19 => ?_); clear h14
      refine pl_val (v := .int .i64 ((i : Nat) : Int)) h19 rfl rfl rfl (by kernel_rfl) (by kernel_rfl) (by kernel_rfl) (fun a20 h20 => ?_); clear h19
      obtain ⟨y21, hy21⟩ : ∃ z, l[i]? = some z := ⟨_, List.getElem?_eq_getElem (by first | omega | (simp; done) | (simp; omega))⟩
      refine pl_val (v := .pointer (some ⟨(blkOf v), offOf v + i * 3, none⟩)) h20 rfl rfl rfl (by kernel_rfl) (by kernel_rfl) (rn_index rfl rfl rfl Try.underlying77 Try.sizeOf46 (hs.below hB9) (by omega) (by first | omega | (simp; done) | (simp; omega))) (fun a22 h22 => ?_); clear h20
      refine pl_val (v := .pointer (some ⟨(blkOf v), offOf v + i * 3, none⟩)) h22 rfl rfl rfl (by kernel_rfl) (by kernel_rfl) (by kernel_rfl) (fun a23 h23 => ?_); clear h22
      refine pl_val (v := .int .i64 y21.1) h23 rfl rfl rfl (by kernel_rfl) (by kernel_rfl) (rn_load1 rfl rfl Try.isAgg3 ((sl_at (hs.below hB9) hy21) 0 _ rfl)) (fun a24 h24 => ?_); clear h23
      refine pl_val (v := .int .i64 id) h24 rfl rfl rfl (by kernel_rfl) (by kernel_rfl) (by kernel_rfl) (fun a25 h25 => ?_); clear h24
      refine pl_val (v := .bool (y21.1 == id)) h25 rfl rfl rfl (by kernel_rfl) (by kernel_rfl) (by kernel_rfl) (fun a26 h26 => ?_); clear h25
      refine pl_nil ?_
      refine co_then ?_
      cases hc27 : (y21.1 == id)
      ·
        rw [hc27] at h26
        have hp28 : ¬ (y21.1 = id) := by first | simpa using hc27 | simpa [and_assoc] using hc27
        clear hc27
        refine co_false h26 rfl ?_
        refine wp_skip ?_
        refine co_blockN ?_
        refine co_then ?_
        refine co_reg ?_
        refine pl_val (v := .int .i64 ((i : Nat) : Int)) h26 rfl rfl rfl (by kernel_rfl) (by kernel_rfl) (by kernel_rfl) (fun a29 h29 => ?_); clear h26
        refine pl_val (v := .int .i64 ((i + 1 : Nat) : Int)) h29 rfl rfl rfl (by kernel_rfl) (by kernel_rfl) (rn_arith' rfl rfl rfl rfl rfl rfl (IntWalk.i64_in _ (by omega)) (by omega)) (fun a30 h30 => ?_); clear h29
        refine pl_val (v := .int .i64 ((i + 1 : Nat) : Int)) h30 rfl rfl rfl (by kernel_rfl) (by kernel_rfl) (by kernel_rfl) (fun a31 h31 => ?_); clear h30
        refine pl_nil ?_
        refine co_then ?_
        refine ⟨(l.length - (i + 1)), by omega, ?_⟩
        exact ⟨i + 1, h31.sub ⟨rfl, rfl, rfl, rfl, trivial⟩, rfl, by omega, by first | (intro j hj; omega) | exact none_step (by assumption) (by assumption) (by omega), hB9⟩
      ·
        rw [hc27] at h26
        have hp32 : y21.1 = id := by first | simpa using hc27 | simpa [and_assoc] using hc27
        clear hc27
        refine co_true h26 rfl ?_
        refine co_seq ?_
        refine co_reg ?_
        refine pl_val (v := .int .i64 ((i : Nat) : Int)) h26 rfl rfl rfl (by kernel_rfl) (by kernel_rfl) (by kernel_rfl) (fun a33 h33 => ?_); clear h26
        refine pl_val (v := .int .i64 ((i : Nat) : Int)) h33 rfl rfl rfl (by kernel_rfl) (by kernel_rfl) (by kernel_rfl) (fun a34 h34 => ?_); clear h33
        refine pl_nil ?_
        refine co_then ?_
        refine wp_ret ?_
        refine co_blockR ?_
        refine co_thenR ?_
        refine co_thenR ?_
        refine co_blockR ?_
        refine co_thenR ?_
        refine co_ret1 h34 rfl rfl ?_
        exact ⟨ret_int (by first | rw [findP_at (by assumption) (by assumption) (by omega)] | rw [findP_none (i := i) (by assumption) (by omega)]), hB9⟩
end Go.Proofs.Ytfhiciaakgcbnaa
