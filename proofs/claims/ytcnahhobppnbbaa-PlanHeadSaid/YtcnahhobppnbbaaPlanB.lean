/- Package plan and the document's own: Floor, set, the closures, In, has. Conditions: none. -/
import Derived.Test.YtcnahhobppnbbaaPlanA
import Derived.Test.YtcnahhobppnbbaaConfF
import Derived.Test.YtcnahhobppnbbaaMapC
import Derived.Test.YtcnahhobppnbbaaPexT
import Derived.Test.YtcnahhobppnbbaaSameInts
namespace Go.Proofs.Ytcnahhobppnbbaa
open Go.RowKit Go.PlainAid
set_option linter.unusedVariables false

theorem memE_len (y : MemT) : (memE y).length = 2 := rfl
theorem memE_one (y : MemT) : ∀ u ∈ memE y, u.oneCell' = true := by intro u hu; simp [memE] at hu; rcases hu with rfl | rfl <;> rfl
def sameCf (ep : Int) (ms : List MemT) (fl ep2 : Int) (ms2 : List MemT) (fl2 : Int) : Bool := decide (ep = ep2 ∧ fl = fl2 ∧ ms = ms2)
theorem sameCf_refl (ep : Int) (ms : List MemT) (fl : Int) : sameCf ep ms fl ep ms fl = true := by unfold sameCf; simp
theorem wcheck_any (ep : Int) (mv : Value) (ms : List MemT) (fl : Int) (w : World) (hs : SliceOf memE 2 w mv ms) (hmk : ∀ m ∈ ms, memOk m) (he : -9223372036854775808 ≤ ep ∧ ep ≤ 9223372036854775807) (hf : 0 ≤ fl ∧ fl < 18446744073709551616) :
    Calls Try.prog 103 #[.agg #[.int .i64 ep, mv, .int .u64 fl]] w fun e w' => e = .returned (.int .i64 (chkC ep ms)) ∧ Below w.heap.size w w' := check_any ⟨ep, mv, ms, fl⟩ w ⟨hs, hmk, he.1, he.2, hf.1, hf.2⟩
theorem wrcheck_any (ep : Int) (mv : Value) (ms : List MemT) (fl : Int) (w : World) (hs : SliceOf memE 2 w mv ms) (hmk : ∀ m ∈ ms, memOk m) (he : -9223372036854775808 ≤ ep ∧ ep ≤ 9223372036854775807) (hf : 0 ≤ fl ∧ fl < 18446744073709551616) :
    Calls Try.prog 69 #[.agg #[.int .i64 ep, mv, .int .u64 fl]] w fun e w' => e = .returned (.int .i64 (chkC ep ms)) ∧ Below w.heap.size w w' := rcheck_any ⟨ep, mv, ms, fl⟩ w ⟨hs, hmk, he.1, he.2, hf.1, hf.2⟩
theorem wrsame_any (ep : Int) (mv : Value) (ms : List MemT) (fl : Int) (ep2 : Int) (mv2 : Value) (ms2 : List MemT) (fl2 : Int) (w : World) (hs : SliceOf memE 2 w mv ms) (hmk : ∀ m ∈ ms, memOk m) (he : -9223372036854775808 ≤ ep ∧ ep ≤ 9223372036854775807) (hf : 0 ≤ fl ∧ fl < 18446744073709551616) (hs2 : SliceOf memE 2 w mv2 ms2) (hmk2 : ∀ m ∈ ms2, memOk m) (he2 : -9223372036854775808 ≤ ep2 ∧ ep2 ≤ 9223372036854775807) (hf2 : 0 ≤ fl2 ∧ fl2 < 18446744073709551616) :
    Calls Try.prog 65 #[.agg #[.int .i64 ep, mv, .int .u64 fl], .agg #[.int .i64 ep2, mv2, .int .u64 fl2]] w fun e w' => e = .returned (.bool (sameCf ep ms fl ep2 ms2 fl2)) ∧ Below w.heap.size w w' := rsame_any ⟨ep, mv, ms, fl⟩ ⟨ep2, mv2, ms2, fl2⟩ w ⟨hs, hmk, he.1, he.2, hf.1, hf.2⟩ ⟨hs2, hmk2, he2.1, he2.2, hf2.1, hf2.2⟩

theorem MapG.toE {K V : Type} [DecidableEq K] {kv : K → Value} {enc : V → Value} {z : V} {w : World} {B : Nat} {g g' : K → V} (h : MapG kv enc z w B g) (e : g = g') : MapG kv enc z w B g' := by subst e; exact h
theorem intz (w : World) : (zeroValue 3).run Try.prog w = .ok (intK 0) w := by kernel_rfl
theorem intE_len (k : IntKind) (y : Int) : (intE k y).length = 1 := rfl
theorem intE_one (k : IntKind) (y : Int) : ∀ u ∈ intE k y, u.oneCell' = true := by intro u hu; simp [intE] at hu; subst hu; rfl
theorem floorP_a {fl last : Int} (h : last = 18446744073709551615) : 18446744073709551615 = floorP fl last := by unfold floorP; rw [if_pos h]
theorem floorP_b {fl last : Int} (h : ¬ last = 18446744073709551615) (h2 : fl < last + 1) : last + 1 = floorP fl last := by unfold floorP; rw [if_neg h, if_pos h2]
theorem floorP_c {fl last : Int} (h : ¬ last = 18446744073709551615) (h2 : ¬ fl < last + 1) : fl = floorP fl last := by unfold floorP; rw [if_neg h, if_neg h2]
theorem floorP_d {fl last : Int} (h : last = 18446744073709551615) (h2 : fl < 18446744073709551616) (h3 : ¬ fl < last) : fl = floorP fl last := by unfold floorP; rw [if_pos h]; omega
theorem floorP_e {fl last : Int} (h : last = 18446744073709551615) : last = floorP fl last := by unfold floorP; rw [if_pos h]; exact h
theorem floorP_bd {fl last : Int} (h : 0 ≤ fl ∧ fl < 18446744073709551616) (h2 : 0 ≤ last ∧ last < 18446744073709551616) : (0 ≤ floorP fl last ∧ floorP fl last < 18446744073709551616) ∧ fl ≤ floorP fl last := by
  unfold floorP
  by_cases q : last = 18446744073709551615
  · rw [if_pos q]; omega
  · rw [if_neg q]
    by_cases q2 : fl < last + 1
    · rw [if_pos q2]; omega
    · rw [if_neg q2]; omega
theorem selA_n {lg gn : List Int} {m : MemT} (h : ¬ cntL gn m.1 = 0) : false = selA lg gn m := by
  have h0 := cnt_0 gn m.1
  have h1 : (cntL gn m.1 == 0) = false := by simpa using h
  rw [h1] at h0; unfold selA; rw [← h0]; rfl
theorem selB_n {lg gn : List Int} {m : MemT} (h : ¬ cntL gn m.1 = 0) : false = selB lg gn m := by
  have h0 := cnt_0 gn m.1
  have h1 : (cntL gn m.1 == 0) = false := by simpa using h
  rw [h1] at h0; unfold selB; rw [← h0]; rfl
theorem selA_y {lg gn : List Int} {m : MemT} (h : cntL gn m.1 = 0) : decide (cntL lg m.1 > 0) = selA lg gn m := by
  have h0 := cnt_0 gn m.1
  have h1 : (cntL gn m.1 == 0) = true := by simpa using h
  rw [h1] at h0; unfold selA; rw [← h0, cnt_in]; rfl
theorem selB_y {lg gn : List Int} {m : MemT} (h : cntL gn m.1 = 0) : (cntL lg m.1 == 0) = selB lg gn m := by
  have h0 := cnt_0 gn m.1
  have h1 : (cntL gn m.1 == 0) = true := by simpa using h
  rw [h1] at h0; unfold selB; rw [← h0, cnt_0]; rfl
theorem may_b (m : MemT) : (chkC 1 ([(m.1, m.2)] : List MemT) == 0) = mayM m := by unfold mayM; rw [Bool.eq_iff_iff]; simp
def joinB (acc : List MemT) (m : MemT) : Bool := decide (acc.length < 4) && mayM m && !(hasM acc m.1)
theorem joinB_1 {acc : List MemT} {m : MemT} (h : ¬ ((acc.length : Nat) : Int) < 4) : false = joinB acc m := by unfold joinB; rw [decide_eq_false (by omega)]; rfl
theorem joinB_2 {acc : List MemT} {m : MemT} (h : mayM m = false) : false = joinB acc m := by unfold joinB; rw [h]; simp
theorem joinB_3 {acc : List MemT} {m : MemT} (h : hasM acc m.1 = true) : false = joinB acc m := by unfold joinB; rw [h]; simp
theorem joinB_y {acc : List MemT} {m : MemT} (h : ((acc.length : Nat) : Int) < 4) (h2 : mayM m = true) (h3 : hasM acc m.1 = false) : true = joinB acc m := by unfold joinB; rw [decide_eq_true (by omega), h2, h3]; rfl
theorem joinF_t {acc : List MemT} {m : MemT} (h : joinB acc m = true) : acc ++ [m] = joinF acc m := by unfold joinF; unfold joinB at h; rw [if_pos h]
theorem joinF_f {acc : List MemT} {m : MemT} (h : joinB acc m = false) : acc = joinF acc m := by unfold joinF; unfold joinB at h; rw [h]; rfl
theorem app_yes {p : MemT → Bool} {acc l : List MemT} {i : Nat} {y : MemT} (h : l[i]? = some y) (hp : p y = true) : acc ++ (l.take i).filter p ++ [y] = acc ++ (l.take (i + 1)).filter p := by rw [List.append_assoc, filt_yes h hp]
theorem app_no {p : MemT → Bool} {acc l : List MemT} {i : Nat} {y : MemT} (h : l[i]? = some y) (hp : p y = false) : acc ++ (l.take i).filter p = acc ++ (l.take (i + 1)).filter p := by rw [filt_no h hp]
theorem jn_yes {acc l : List MemT} {i : Nat} {y : MemT} (h : l[i]? = some y) (hp : joinB (joinL acc (l.take i)) y = true) : joinL acc (l.take i) ++ [y] = joinL acc (l.take (i + 1)) := by rw [join_step h, joinF_t hp]
theorem jn_no {acc l : List MemT} {i : Nat} {y : MemT} (h : l[i]? = some y) (hp : joinB (joinL acc (l.take i)) y = false) : joinL acc (l.take i) = joinL acc (l.take (i + 1)) := by rw [join_step h, ← joinF_f hp]
theorem jn_0 (acc l : List MemT) : acc = joinL acc (l.take 0) := rfl
theorem jn_end {acc l : List MemT} {i : Nat} (h : l.length ≤ i) : joinL acc (l.take i) = joinL acc l := join_end (.inl h)
theorem filt_take {p : MemT → Bool} {l : List MemT} {i : Nat} : ((l.take i).filter p).length ≤ l.length := Nat.le_trans (List.length_filter_le ..) (by rw [List.length_take]; omega)
theorem filt_end {p : MemT → Bool} {acc l : List MemT} {i : Nat} (h : l.length ≤ i) : acc ++ (l.take i).filter p = acc ++ l.filter p := by rw [List.take_of_length_le h]
theorem keep_le (ms : List MemT) (lg gn : List Int) : (keepL ms lg gn).length ≤ ms.length := List.length_filter_le ..
theorem stayL_le (ms : List MemT) (lg gn : List Int) : (stayL ms lg gn).length ≤ ms.length := by unfold stayL; rw [List.length_append]; exact stay_le ms lg gn

set_option maxRecDepth 100000 in
theorem floor_any (fl : Int) (last : Int) (w : World) (hfl : 0 ≤ fl ∧ fl < 18446744073709551616) (hlast : 0 ≤ last ∧ last < 18446744073709551616) :
    Calls Try.prog 67 #[.int .u64 fl, .int .u64 last] w fun e w' => e = .returned (.int .u64 (floorP fl last)) ∧ Below w.heap.size w w' := by
 have hB0 := Below.refl w.heap.size w
 refine co_enter (n := 11) Try.func67 rfl rfl rfl [(0, .int .u64 fl), (1, .int .u64 last)] rfl (fun a h0 => ?_)
 refine co_seq ?_
 refine co_reg ?_
 refine pk0 (v := .int .u64 0) h0 rfl fun a1 h1 => ?_; clear h0
 refine pl_nil ?_
 refine co_then ?_
 refine co_seq ?_
 refine co_seq ?_
 refine co_reg ?_
 refine pk0 (v := .int .u64 last) h1 rfl fun a2 h2 => ?_; clear h1
 refine pk0 (v := .bool (last == 18446744073709551615)) h2 rfl fun a3 h3 => ?_; clear h2
 refine pl_nil ?_
 refine co_then ?_
 cases hc4 : (last == 18446744073709551615)
 ·
  rw [hc4] at h3
  have hp5 : ¬ (last = 18446744073709551615) := by first | simpa using hc4 | simpa [and_assoc] using hc4
  clear hc4
  refine co_false h3 rfl ?_
  refine wp_skip ?_
  refine co_then ?_
  refine co_seq ?_
  refine co_reg ?_
  refine pk0 (v := .int .u64 fl) h3 rfl fun a6 h6 => ?_; clear h3
  refine pk0 (v := .int .u64 last) h6 rfl fun a7 h7 => ?_; clear h6
  refine pk (v := .int .u64 (last + 1)) h7 rfl (rn_arith rfl rfl rfl rfl rfl rfl (IntWalk.u64_in _ (by omega))) fun a8 h8 => ?_; clear h7
  by_cases hs9 : fl < last + 1
  ·
   refine pk (v := .int .u64 (last + 1)) h8 rfl (rn_max2 rfl rfl rfl rfl (by omega)) fun a10 h10 => ?_; clear h8
   refine pk0 (v := .int .u64 (last + 1)) h10 rfl fun a11 h11 => ?_; clear h10
   refine pl_nil ?_
   refine co_then ?_
   refine wp_ret ?_
   refine co_ret1 h11 rfl rfl ?_
   exact ⟨ret_int (by first | exact floorP_a (by omega) | exact floorP_b (by omega) (by omega) | exact floorP_c (by omega) (by omega)), hB0⟩
  ·
   refine pk (v := .int .u64 fl) h8 rfl (rn_max1 rfl rfl rfl rfl (by omega)) fun a12 h12 => ?_; clear h8
   refine pk0 (v := .int .u64 fl) h12 rfl fun a13 h13 => ?_; clear h12
   refine pl_nil ?_
   refine co_then ?_
   refine wp_ret ?_
   refine co_ret1 h13 rfl rfl ?_
   exact ⟨ret_int (by first | exact floorP_a (by omega) | exact floorP_b (by omega) (by omega) | exact floorP_c (by omega) (by omega)), hB0⟩
 ·
  rw [hc4] at h3
  have hp14 : last = 18446744073709551615 := by first | simpa using hc4 | simpa [and_assoc] using hc4
  clear hc4
  refine co_true h3 rfl ?_
  refine co_seq ?_
  refine co_reg ?_
  refine pk0 (v := .int .u64 18446744073709551615) h3 rfl fun a15 h15 => ?_; clear h3
  refine pl_nil ?_
  refine co_then ?_
  refine wp_ret ?_
  refine co_thenR ?_
  refine co_ret1 h15 rfl rfl ?_
  exact ⟨ret_int (by first | exact floorP_a (by omega) | exact floorP_b (by omega) (by omega) | exact floorP_c (by omega) (by omega)), hB0⟩
set_option maxRecDepth 100000 in
theorem rfloor_any (fl : Int) (last : Int) (w : World) (hfl : 0 ≤ fl ∧ fl < 18446744073709551616) (hlast : 0 ≤ last ∧ last < 18446744073709551616) :
    Calls Try.prog 68 #[.int .u64 fl, .int .u64 last] w fun e w' => e = .returned (.int .u64 (floorP fl last)) ∧ Below w.heap.size w w' := by
 have hB0 := Below.refl w.heap.size w
 refine co_enter (n := 12) Try.func68 rfl rfl rfl [(0, .int .u64 fl), (1, .int .u64 last)] rfl (fun a h0 => ?_)
 refine co_seq ?_
 refine co_reg ?_
 refine pk0 (v := .int .u64 0) h0 rfl fun a1 h1 => ?_; clear h0
 refine pl_nil ?_
 refine co_then ?_
 refine co_seq ?_
 refine co_seq ?_
 refine co_reg ?_
 refine pk0 (v := .int .u64 last) h1 rfl fun a2 h2 => ?_; clear h1
 refine pk0 (v := .bool (decide (last < 18446744073709551615))) h2 rfl fun a3 h3 => ?_; clear h2
 refine pl_nil ?_
 refine co_then ?_
 cases hc4 : (decide (last < 18446744073709551615))
 ·
  rw [hc4] at h3
  have hp5 : ¬ (last < 18446744073709551615) := of_decide_eq_false hc4
  clear hc4
  refine co_false h3 rfl ?_
  refine wp_skip ?_
  refine co_then ?_
  refine co_seq ?_
  refine co_reg ?_
  refine pk0 (v := .int .u64 fl) h3 rfl fun a6 h6 => ?_; clear h3
  refine pk0 (v := .int .u64 last) h6 rfl fun a7 h7 => ?_; clear h6
  by_cases hs8 : fl < last
  ·
   refine pk (v := .int .u64 last) h7 rfl (rn_max2 rfl rfl rfl rfl (by omega)) fun a9 h9 => ?_; clear h7
   refine pk0 (v := .int .u64 last) h9 rfl fun a10 h10 => ?_; clear h9
   refine pl_nil ?_
   refine co_then ?_
   refine wp_ret ?_
   refine co_ret1 h10 rfl rfl ?_
   exact ⟨ret_int (by first | exact floorP_b (by omega) (by omega) | exact floorP_c (by omega) (by omega) | exact floorP_e (by omega) | exact floorP_d (by omega) (by omega) (by omega)), hB0⟩
  ·
   refine pk (v := .int .u64 fl) h7 rfl (rn_max1 rfl rfl rfl rfl (by omega)) fun a11 h11 => ?_; clear h7
   refine pk0 (v := .int .u64 fl) h11 rfl fun a12 h12 => ?_; clear h11
   refine pl_nil ?_
   refine co_then ?_
   refine wp_ret ?_
   refine co_ret1 h12 rfl rfl ?_
   exact ⟨ret_int (by first | exact floorP_b (by omega) (by omega) | exact floorP_c (by omega) (by omega) | exact floorP_e (by omega) | exact floorP_d (by omega) (by omega) (by omega)), hB0⟩
 ·
  rw [hc4] at h3
  have hp13 : last < 18446744073709551615 := of_decide_eq_true hc4
  clear hc4
  refine co_true h3 rfl ?_
  refine co_reg ?_
  refine pk0 (v := .int .u64 last) h3 rfl fun a14 h14 => ?_; clear h3
  refine pk (v := .int .u64 (last + 1)) h14 rfl (rn_arith rfl rfl rfl rfl rfl rfl (IntWalk.u64_in _ (by omega))) fun a15 h15 => ?_; clear h14
  refine pk0 (v := .int .u64 (last + 1)) h15 rfl fun a16 h16 => ?_; clear h15
  refine pl_nil ?_
  refine co_then ?_
  refine co_seq ?_
  refine co_reg ?_
  refine pk0 (v := .int .u64 fl) h16 rfl fun a17 h17 => ?_; clear h16
  refine pk0 (v := .int .u64 (last + 1)) h17 rfl fun a18 h18 => ?_; clear h17
  by_cases hs19 : fl < last + 1
  ·
   refine pk (v := .int .u64 (last + 1)) h18 rfl (rn_max2 rfl rfl rfl rfl (by omega)) fun a20 h20 => ?_; clear h18
   refine pk0 (v := .int .u64 (last + 1)) h20 rfl fun a21 h21 => ?_; clear h20
   refine pl_nil ?_
   refine co_then ?_
   refine wp_ret ?_
   refine co_ret1 h21 rfl rfl ?_
   exact ⟨ret_int (by first | exact floorP_b (by omega) (by omega) | exact floorP_c (by omega) (by omega) | exact floorP_e (by omega) | exact floorP_d (by omega) (by omega) (by omega)), hB0⟩
  ·
   refine pk (v := .int .u64 fl) h18 rfl (rn_max1 rfl rfl rfl rfl (by omega)) fun a22 h22 => ?_; clear h18
   refine pk0 (v := .int .u64 fl) h22 rfl fun a23 h23 => ?_; clear h22
   refine pl_nil ?_
   refine co_then ?_
   refine wp_ret ?_
   refine co_ret1 h23 rfl rfl ?_
   exact ⟨ret_int (by first | exact floorP_b (by omega) (by omega) | exact floorP_c (by omega) (by omega) | exact floorP_e (by omega) | exact floorP_d (by omega) (by omega) (by omega)), hB0⟩
set_option maxRecDepth 100000 in
theorem set_any (v : Value) (l : List Int) (w : World) (hs : SliceOf (intE .i64) 1 w v l) :
    Calls Try.prog 122 #[v] w fun e w' => ∃ (N : Nat), e = .returned (.map (some N)) ∧ MapG intK intK 0 w' N (cntL l) ∧ w.heap.size ≤ N ∧ Below w.heap.size w w' := by
 have hB0 := Below.refl w.heap.size w
 have hl_hs := sl_len hs
 refine co_enter (n := 19) Try.func122 rfl rfl rfl [(0, v)] rfl (fun a h0 => ?_)
 refine co_seq ?_
 refine co_reg ?_
 refine pk0 (v := .map none) h0 rfl fun a1 h1 => ?_; clear h0
 refine pl_nil ?_
 refine co_then ?_
 refine co_seq ?_
 refine co_reg ?_
 refine pw h1 rfl (op_makeG intK intK 0 (by kernel_rfl) (by kernel_rfl) rfl) ?_; clear h1
 rintro _ w3 a2 ⟨B4, rfl, hN5, hz6, hm7, hg8⟩ h2
 have hz9 := hg8.size
 have hl10 := hm7.lt
 refine pk0 (v := .map (some B4)) h2 rfl fun a11 h11 => ?_; clear h2
 refine pl_nil ?_
 refine co_then ?_
 refine co_seq ?_
 refine co_seq ?_
 refine co_reg ?_
 refine pk0 (v := v) h11 rfl fun a12 h12 => ?_; clear h11
 have hB13 := hb_new hB0 hg8
 refine pk (v := .int .i64 ((l.length : Nat) : Int)) h12 rfl (rn_len rfl rfl Try.underlying37 (hs.below hB13)) fun a14 h14 => ?_; clear h12
 refine pk0 (v := .int .i64 0) h14 rfl fun a15 h15 => ?_; clear h14
 refine pl_nil ?_
 refine co_then ?_
 refine wp_block ?_
 have h16 : Slots 19 [(0, v), (3, .map (some B4)), (7, v), (8, .int .i64 ((l.length : Nat) : Int)), (9, .int .i64 0)] _ := h15.sub ⟨rfl, rfl, rfl, rfl, rfl, trivial⟩; clear h15
 refine co_loop (fun mm a x => ∃ (i : Nat), Slots 19 [(0, v), (3, .map (some B4)), (7, v), (8, .int .i64 ((l.length : Nat) : Int)), (9, .int .i64 ((i : Nat) : Int))] a ∧ mm = l.length - i ∧ (i ≤ l.length) ∧ MapG intK intK 0 x B4 (cntL (l.take i)) ∧ Below w.heap.size w x) (l.length - 0) ?_ ?_
 · exact ⟨0, h16.sub ⟨rfl, rfl, rfl, rfl, (slot_eq rfl (congrArg (Value.int .i64) (by first | rfl | omega))), trivial⟩, rfl, by omega, (hm7.toE (cntL_nil)), hB13⟩
 · rintro k17 a18 w19 ⟨i, h18, rfl, hi20, hf21, hB22⟩
   have hz23 := hB22.size
   have hl24 := hf21.lt
   refine co_seq ?_
   refine co_reg ?_
   refine pk0 (v := .bool (decide (((i : Nat) : Int) < ((l.length : Nat) : Int)))) h18 rfl fun a25 h25 => ?_; clear h18
   refine pl_nil ?_
   refine co_then ?_
   refine co_seq ?_
   cases hc26 : (decide (((i : Nat) : Int) < ((l.length : Nat) : Int)))
   ·
    rw [hc26] at h25
    have hp27 : ¬ (((i : Nat) : Int) < ((l.length : Nat) : Int)) := of_decide_eq_false hc26
    clear hc26
    refine co_false h25 rfl ?_
    refine wp_exit ?_
    refine co_thenX ?_
    refine co_thenX ?_
    refine co_blockX ?_
    refine co_then ?_
    refine co_seq ?_
    refine co_reg ?_
    refine pk0 (v := .map (some B4)) h25 rfl fun a28 h28 => ?_; clear h25
    refine pk0 (v := .map (some B4)) h28 rfl fun a29 h29 => ?_; clear h28
    refine pl_nil ?_
    refine co_then ?_
    refine wp_ret ?_
    refine co_ret1 h29 rfl rfl ?_
    exact ⟨_, rfl, hf21.toE (by rw [List.take_of_length_le (by omega)]), by omega, hB22⟩
   ·
    rw [hc26] at h25
    have hp30 : ((i : Nat) : Int) < ((l.length : Nat) : Int) := of_decide_eq_true hc26
    clear hc26
    refine co_true h25 rfl ?_
    refine wp_skip ?_
    refine co_then ?_
    refine co_seq ?_
    refine wp_block ?_
    refine co_seq ?_
    refine co_reg ?_
    obtain ⟨y31, hy31⟩ : ∃ z, l[i]? = some z := ⟨_, List.getElem?_eq_getElem (by first | omega | (simp; done) | (simp; omega))⟩
    refine pk (v := pt (blkOf v) (offOf v + i * 1)) h25 rfl (rn_index rfl rfl rfl Try.underlying37 Try.sizeOf3 (hs.below hB22) (by omega) (by first | omega | (simp; done) | (simp; omega))) fun a32 h32 => ?_; clear h25
    refine pk (v := .int .i64 y31) h32 rfl (rn_load1 rfl rfl Try.isAgg3 ((sl_at (hs.below hB22) hy31) 0 _ rfl)) fun a33 h33 => ?_; clear h32
    refine pk0 (v := .int .i64 y31) h33 rfl fun a34 h34 => ?_; clear h33
    refine pl_nil ?_
    refine co_then ?_
    refine co_reg ?_
    refine pk0 (v := .map (some B4)) h34 rfl fun a35 h35 => ?_; clear h34
    refine pk0 (v := .int .i64 y31) h35 rfl fun a36 h36 => ?_; clear h35
    have k37 : 0 ≤ cntL (l.take i) y31 ∧ cntL (l.take i) y31 ≤ i := by have := cntL_nn (l.take i) y31; rw [List.length_take] at this; omega
    refine pk (v := .int .i64 (cntL (l.take i) y31)) h36 rfl (rn_lookG (a := y31) (intKL Try.underlying3) rfl rfl rfl Try.underlying180 intz hf21) fun a38 h38 => ?_; clear h36
    refine pk (v := .int .i64 ((cntL (l.take i) y31) + 1)) h38 rfl (rn_arith rfl rfl rfl rfl rfl rfl (IntWalk.i64_in _ (by omega))) fun a39 h39 => ?_; clear h38
    refine pwD h39 rfl (op_updateG (a := y31) (v := ((cntL (l.take i) y31) + 1)) (intKL Try.underlying3) rfl rfl rfl rfl Try.underlying180 hf21) ?_; clear h39
    rintro _ w41 a40 ⟨hm42, hz43, hg44⟩ h40
    have hz45 := hg44.size
    have hl46 := hm42.lt
    refine pl_nil ?_
    refine co_blockN ?_
    refine co_then ?_
    refine co_reg ?_
    refine pk (v := .int .i64 ((i + 1 : Nat) : Int)) h40 rfl (rn_arith' rfl rfl rfl rfl rfl rfl (IntWalk.i64_in _ (by omega)) (by omega)) fun a47 h47 => ?_; clear h40
    refine pk0 (v := .int .i64 ((i + 1 : Nat) : Int)) h47 rfl fun a48 h48 => ?_; clear h47
    refine pl_nil ?_
    refine co_then ?_
    refine ⟨(l.length - (i + 1)), by omega, ?_⟩
    have hB49 := hb_at hB22 hg44 (by omega)
    exact ⟨i + 1, h48.sub ⟨rfl, rfl, rfl, rfl, rfl, trivial⟩, rfl, by omega, (hm42.toE (cntL_step hy31)), hB49⟩
set_option maxRecDepth 100000 in
theorem selA_any (m : MemT) (G : Nat) (T : Nat) (mg : Nat) (mt : Nat) (gn : List Int) (lg : List Int) (w : World) (hG : Blk w G 180 #[.map (some mg)]) (hT : Blk w T 180 #[.map (some mt)]) (hmg : MapG intK intK 0 w mg (cntL gn)) (hmt : MapG intK intK 0 w mt (cntL lg)) :
    Calls Try.prog 124 #[.agg #[.int .i64 m.1, .int .i64 m.2], pt G 0, pt T 0] w fun e w' => e = .returned (.bool (selA lg gn m)) ∧ Below w.heap.size w w' := by
 have hB0 := Below.refl w.heap.size w
 have hl_hG := hG.lt
 have hl_hT := hT.lt
 have hlmg := hmg.lt
 have hlmt := hmt.lt
 refine co_enter (n := 17) Try.func124 rfl rfl rfl [(0, .agg #[.int .i64 m.1, .int .i64 m.2]), (1, pt G 0), (2, pt T 0)] rfl (fun a h0 => ?_)
 refine co_seq ?_
 refine co_reg ?_
 refine pw h0 rfl (op_new (v := fun N => pt N 0) (T := 114) (cs := #[.int .i64 m.1, .int .i64 m.2]) (by kernel_rfl) (by kernel_rfl) (by kernel_rfl)) ?_; clear h0
 rintro _ w2 a1 ⟨N3, rfl, hN6, hz7, hk5, hg4⟩ h1
 have hz8 := hg4.size
 try dsimp only at h1
 refine pk0 (v := .bool false) h1 rfl fun a9 h9 => ?_; clear h1
 refine pl_nil ?_
 refine co_then ?_
 refine co_seq ?_
 refine co_reg ?_
 have hk10 := hG.kept hg4 (by simp)
 refine pk (v := .map (some mg)) h9 rfl (rn_load1 rfl rfl Try.isAgg180 (hk10.cell rfl)) fun a11 h11 => ?_; clear h9
 refine pk0 (v := pt N3 0) h11 rfl fun a12 h12 => ?_; clear h11
 refine pk (v := .int .i64 m.1) h12 rfl (rn_load1 rfl rfl Try.isAgg3 (hk5.cell rfl)) fun a13 h13 => ?_; clear h12
 have hI14 := hmg.kept hg4 (by simp)
 refine pk (v := .int .i64 (cntL gn m.1)) h13 rfl (rn_lookG (a := m.1) (intKL Try.underlying3) rfl rfl rfl Try.underlying180 intz hI14) fun a15 h15 => ?_; clear h13
 refine pk0 (v := .bool (cntL gn m.1 == 0)) h15 rfl fun a16 h16 => ?_; clear h15
 refine pk0 (v := .bool (cntL gn m.1 == 0)) h16 rfl fun a17 h17 => ?_; clear h16
 have hB19 := hb_new hB0 hg4
 cases hc18 : (cntL gn m.1 == 0)
 ·
  rw [hc18] at h17
  have hp20 : ¬ (cntL gn m.1 = 0) := by first | simpa using hc18 | simpa [and_assoc] using hc18
  clear hc18
  refine psk h17 rfl fun a21 h21 => ?_; clear h17
  refine psk h21 rfl fun a22 h22 => ?_; clear h21
  refine psk h22 rfl fun a23 h23 => ?_; clear h22
  refine psk h23 rfl fun a24 h24 => ?_; clear h23
  refine psk h24 rfl fun a25 h25 => ?_; clear h24
  refine pk0 (v := .bool false) h25 rfl fun a26 h26 => ?_; clear h25
  refine pk0 (v := .bool false) h26 rfl fun a27 h27 => ?_; clear h26
  refine pl_nil ?_
  refine co_then ?_
  refine wp_ret ?_
  refine co_ret1 h27 rfl rfl ?_
  exact ⟨ret_bool (by first | exact selA_y (by omega) | exact selA_n (by omega)), hB19⟩
 ·
  rw [hc18] at h17
  have hp28 : cntL gn m.1 = 0 := by first | simpa using hc18 | simpa [and_assoc] using hc18
  clear hc18
  have hk29 := hT.kept hg4 (by simp)
  refine pk (v := .map (some mt)) h17 rfl (rn_load1 rfl rfl Try.isAgg180 (hk29.cell rfl)) fun a30 h30 => ?_; clear h17
  refine pk0 (v := pt N3 0) h30 rfl fun a31 h31 => ?_; clear h30
  refine pk (v := .int .i64 m.1) h31 rfl (rn_load1 rfl rfl Try.isAgg3 (hk5.cell rfl)) fun a32 h32 => ?_; clear h31
  have hI33 := hmt.kept hg4 (by simp)
  refine pk (v := .int .i64 (cntL lg m.1)) h32 rfl (rn_lookG (a := m.1) (intKL Try.underlying3) rfl rfl rfl Try.underlying180 intz hI33) fun a34 h34 => ?_; clear h32
  refine pk0 (v := .bool (decide (cntL lg m.1 > 0))) h34 rfl fun a35 h35 => ?_; clear h34
  refine pk0 (v := .bool (decide (cntL lg m.1 > 0))) h35 rfl fun a36 h36 => ?_; clear h35
  refine pk0 (v := .bool (decide (cntL lg m.1 > 0))) h36 rfl fun a37 h37 => ?_; clear h36
  refine pl_nil ?_
  refine co_then ?_
  refine wp_ret ?_
  refine co_ret1 h37 rfl rfl ?_
  exact ⟨ret_bool (by first | exact selA_y (by omega) | exact selA_n (by omega)), hB19⟩
set_option maxRecDepth 100000 in
theorem selB_any (m : MemT) (G : Nat) (T : Nat) (mg : Nat) (mt : Nat) (gn : List Int) (lg : List Int) (w : World) (hG : Blk w G 180 #[.map (some mg)]) (hT : Blk w T 180 #[.map (some mt)]) (hmg : MapG intK intK 0 w mg (cntL gn)) (hmt : MapG intK intK 0 w mt (cntL lg)) :
    Calls Try.prog 125 #[.agg #[.int .i64 m.1, .int .i64 m.2], pt G 0, pt T 0] w fun e w' => e = .returned (.bool (selB lg gn m)) ∧ Below w.heap.size w w' := by
 have hB0 := Below.refl w.heap.size w
 have hl_hG := hG.lt
 have hl_hT := hT.lt
 have hlmg := hmg.lt
 have hlmt := hmt.lt
 refine co_enter (n := 17) Try.func125 rfl rfl rfl [(0, .agg #[.int .i64 m.1, .int .i64 m.2]), (1, pt G 0), (2, pt T 0)] rfl (fun a h0 => ?_)
 refine co_seq ?_
 refine co_reg ?_
 refine pw h0 rfl (op_new (v := fun N => pt N 0) (T := 114) (cs := #[.int .i64 m.1, .int .i64 m.2]) (by kernel_rfl) (by kernel_rfl) (by kernel_rfl)) ?_; clear h0
 rintro _ w2 a1 ⟨N3, rfl, hN6, hz7, hk5, hg4⟩ h1
 have hz8 := hg4.size
 try dsimp only at h1
 refine pk0 (v := .bool false) h1 rfl fun a9 h9 => ?_; clear h1
 refine pl_nil ?_
 refine co_then ?_
 refine co_seq ?_
 refine co_reg ?_
 have hk10 := hG.kept hg4 (by simp)
 refine pk (v := .map (some mg)) h9 rfl (rn_load1 rfl rfl Try.isAgg180 (hk10.cell rfl)) fun a11 h11 => ?_; clear h9
 refine pk0 (v := pt N3 0) h11 rfl fun a12 h12 => ?_; clear h11
 refine pk (v := .int .i64 m.1) h12 rfl (rn_load1 rfl rfl Try.isAgg3 (hk5.cell rfl)) fun a13 h13 => ?_; clear h12
 have hI14 := hmg.kept hg4 (by simp)
 refine pk (v := .int .i64 (cntL gn m.1)) h13 rfl (rn_lookG (a := m.1) (intKL Try.underlying3) rfl rfl rfl Try.underlying180 intz hI14) fun a15 h15 => ?_; clear h13
 refine pk0 (v := .bool (cntL gn m.1 == 0)) h15 rfl fun a16 h16 => ?_; clear h15
 refine pk0 (v := .bool (cntL gn m.1 == 0)) h16 rfl fun a17 h17 => ?_; clear h16
 have hB19 := hb_new hB0 hg4
 cases hc18 : (cntL gn m.1 == 0)
 ·
  rw [hc18] at h17
  have hp20 : ¬ (cntL gn m.1 = 0) := by first | simpa using hc18 | simpa [and_assoc] using hc18
  clear hc18
  refine psk h17 rfl fun a21 h21 => ?_; clear h17
  refine psk h21 rfl fun a22 h22 => ?_; clear h21
  refine psk h22 rfl fun a23 h23 => ?_; clear h22
  refine psk h23 rfl fun a24 h24 => ?_; clear h23
  refine psk h24 rfl fun a25 h25 => ?_; clear h24
  refine pk0 (v := .bool false) h25 rfl fun a26 h26 => ?_; clear h25
  refine pk0 (v := .bool false) h26 rfl fun a27 h27 => ?_; clear h26
  refine pl_nil ?_
  refine co_then ?_
  refine wp_ret ?_
  refine co_ret1 h27 rfl rfl ?_
  exact ⟨ret_bool (by first | exact selB_y (by omega) | exact selB_n (by omega)), hB19⟩
 ·
  rw [hc18] at h17
  have hp28 : cntL gn m.1 = 0 := by first | simpa using hc18 | simpa [and_assoc] using hc18
  clear hc18
  have hk29 := hT.kept hg4 (by simp)
  refine pk (v := .map (some mt)) h17 rfl (rn_load1 rfl rfl Try.isAgg180 (hk29.cell rfl)) fun a30 h30 => ?_; clear h17
  refine pk0 (v := pt N3 0) h30 rfl fun a31 h31 => ?_; clear h30
  refine pk (v := .int .i64 m.1) h31 rfl (rn_load1 rfl rfl Try.isAgg3 (hk5.cell rfl)) fun a32 h32 => ?_; clear h31
  have hI33 := hmt.kept hg4 (by simp)
  refine pk (v := .int .i64 (cntL lg m.1)) h32 rfl (rn_lookG (a := m.1) (intKL Try.underlying3) rfl rfl rfl Try.underlying180 intz hI33) fun a34 h34 => ?_; clear h32
  refine pk0 (v := .bool (cntL lg m.1 == 0)) h34 rfl fun a35 h35 => ?_; clear h34
  refine pk0 (v := .bool (cntL lg m.1 == 0)) h35 rfl fun a36 h36 => ?_; clear h35
  refine pk0 (v := .bool (cntL lg m.1 == 0)) h36 rfl fun a37 h37 => ?_; clear h36
  refine pl_nil ?_
  refine co_then ?_
  refine wp_ret ?_
  refine co_ret1 h37 rfl rfl ?_
  exact ⟨ret_bool (by first | exact selB_y (by omega) | exact selB_n (by omega)), hB19⟩
set_option maxRecDepth 100000 in
theorem hasId27_any (p : MemT) (id : Int) (N : Nat) (w : World) (hr : w.rangeAt N 0 [.int .i64 id]) :
    Calls Try.prog 127 #[.agg #[.int .i64 p.1, .int .i64 p.2], pt N 0] w fun e w' => e = .returned (.bool (p.1 == id)) ∧ Below w.heap.size w w' := by
 have hB0 := Below.refl w.heap.size w
 refine co_enter (n := 9) Try.func127 rfl rfl rfl [(0, .agg #[.int .i64 p.1, .int .i64 p.2]), (1, pt N 0)] rfl (fun a h0 => ?_)
 refine co_seq ?_
 refine co_reg ?_
 refine pw h0 rfl (op_new (v := fun N => pt N 0) (T := 114) (cs := #[.int .i64 p.1, .int .i64 p.2]) (by kernel_rfl) (by kernel_rfl) (by kernel_rfl)) ?_; clear h0
 rintro _ w2 a1 ⟨N3, rfl, hN6, hz7, hk5, hg4⟩ h1
 have hz8 := hg4.size
 try dsimp only at h1
 refine pk0 (v := .bool false) h1 rfl fun a9 h9 => ?_; clear h1
 refine pl_nil ?_
 refine co_then ?_
 refine co_seq ?_
 refine co_reg ?_
 refine pk0 (v := pt N3 0) h9 rfl fun a10 h10 => ?_; clear h9
 refine pk (v := .int .i64 p.1) h10 rfl (rn_load1 rfl rfl Try.isAgg3 (hk5.cell rfl)) fun a11 h11 => ?_; clear h10
 refine pk0 (v := pt N 0) h11 rfl fun a12 h12 => ?_; clear h11
 have hB13 := hb_new hB0 hg4
 refine pk (v := .int .i64 id) h12 rfl (rn_load1 rfl rfl Try.isAgg3 ((range_below hr hB13) 0 _ rfl)) fun a14 h14 => ?_; clear h12
 refine pk0 (v := .bool (p.1 == id)) h14 rfl fun a15 h15 => ?_; clear h14
 refine pk0 (v := .bool (p.1 == id)) h15 rfl fun a16 h16 => ?_; clear h15
 refine pl_nil ?_
 refine co_then ?_
 refine wp_ret ?_
 refine co_ret1 h16 rfl rfl ?_
 exact ⟨rfl, hB13⟩
set_option maxRecDepth 100000 in
theorem indexM_any (v : Value) (l : List MemT) (id : Int) (N : Nat) (w : World) (hs : SliceOf memE 2 w v l) (hr : w.rangeAt N 0 [.int .i64 id]) :
    Calls Try.prog 146 #[v, .func (.func 127) #[] #[pt N 0]] w fun e w' => ∃ (j : Int), e = .returned (.int .i64 j) ∧ decide (j ≥ 0) = hasM l id ∧ Below w.heap.size w w' := by
 have hB0 := Below.refl w.heap.size w
 have hl_hs := sl_len hs
 refine co_enter (n := 19) Try.func146 rfl rfl rfl [(0, v), (1, .func (.func 127) #[] #[pt N 0])] rfl (fun a h0 => ?_)
 refine co_seq ?_
 refine co_reg ?_
 refine pk0 (v := .int .i64 0) h0 rfl fun a1 h1 => ?_; clear h0
 refine pl_nil ?_
 refine co_then ?_
 refine co_seq ?_
 refine co_seq ?_
 refine co_reg ?_
 refine pk0 (v := v) h1 rfl fun a2 h2 => ?_; clear h1
 refine pk (v := .int .i64 ((l.length : Nat) : Int)) h2 rfl (rn_len rfl rfl Try.underlying89 hs) fun a3 h3 => ?_; clear h2
 refine pk0 (v := .int .i64 0) h3 rfl fun a4 h4 => ?_; clear h3
 refine pl_nil ?_
 refine co_then ?_
 refine wp_block ?_
 have h5 : Slots 19 [(0, v), (1, .func (.func 127) #[] #[pt N 0]), (6, v), (7, .int .i64 ((l.length : Nat) : Int)), (8, .int .i64 0)] _ := h4.sub ⟨rfl, rfl, rfl, rfl, rfl, trivial⟩; clear h4
 refine co_loop (fun mm a x => ∃ (i : Nat), Slots 19 [(0, v), (1, .func (.func 127) #[] #[pt N 0]), (6, v), (7, .int .i64 ((l.length : Nat) : Int)), (8, .int .i64 ((i : Nat) : Int))] a ∧ mm = l.length - i ∧ (i ≤ l.length) ∧ (∀ j, j < i → ∀ z, l[j]? = some z → z.1 ≠ id) ∧ Below w.heap.size w x) (l.length - 0) ?_ ?_
 · exact ⟨0, h5.sub ⟨rfl, rfl, rfl, rfl, (slot_eq rfl (congrArg (Value.int .i64) (by first | rfl | omega))), trivial⟩, rfl, by omega, by first | (intro j hj; omega) | exact has_next (by assumption) (by assumption) (by omega), hB0⟩
 · rintro k6 a7 w8 ⟨i, h7, rfl, hi9, hi10, hB11⟩
   have hz12 := hB11.size
   refine co_seq ?_
   refine co_reg ?_
   refine pk0 (v := .bool (decide (((i : Nat) : Int) < ((l.length : Nat) : Int)))) h7 rfl fun a13 h13 => ?_; clear h7
   refine pl_nil ?_
   refine co_then ?_
   refine co_seq ?_
   cases hc14 : (decide (((i : Nat) : Int) < ((l.length : Nat) : Int)))
   ·
    rw [hc14] at h13
    have hp15 : ¬ (((i : Nat) : Int) < ((l.length : Nat) : Int)) := of_decide_eq_false hc14
    clear hc14
    refine co_false h13 rfl ?_
    refine wp_exit ?_
    refine co_thenX ?_
    refine co_thenX ?_
    refine co_blockX ?_
    refine co_then ?_
    refine co_seq ?_
    refine co_reg ?_
    refine pk0 (v := .int .i64 (-1)) h13 rfl fun a16 h16 => ?_; clear h13
    refine pl_nil ?_
    refine co_then ?_
    refine wp_ret ?_
    refine co_ret1 h16 rfl rfl ?_
    exact ⟨_, rfl, by rw [decide_eq_false (by omega)]; exact hasM_end (by assumption) (by omega), hB11⟩
   ·
    rw [hc14] at h13
    have hp17 : ((i : Nat) : Int) < ((l.length : Nat) : Int) := of_decide_eq_true hc14
    clear hc14
    refine co_true h13 rfl ?_
    refine wp_skip ?_
    refine co_then ?_
    refine co_seq ?_
    refine wp_block ?_
    refine co_seq ?_
    refine co_reg ?_
    refine pk0 (v := .int .i64 ((i : Nat) : Int)) h13 rfl fun a18 h18 => ?_; clear h13
    refine pk0 (v := .int .i64 ((i : Nat) : Int)) h18 rfl fun a19 h19 => ?_; clear h18
    refine pl_nil ?_
    refine co_then ?_
    refine co_seq ?_
    refine co_reg ?_
    refine pk0 (v := .func (.func 127) #[] #[pt N 0]) h19 rfl fun a20 h20 => ?_; clear h19
    refine pk0 (v := v) h20 rfl fun a21 h21 => ?_; clear h20
    refine pk0 (v := .int .i64 ((i : Nat) : Int)) h21 rfl fun a22 h22 => ?_; clear h21
    obtain ⟨y23, hy23⟩ : ∃ z, l[i]? = some z := ⟨_, List.getElem?_eq_getElem (by first | omega | (simp; done) | (simp; omega))⟩
    refine pk (v := pt (blkOf v) (offOf v + i * 2)) h22 rfl (rn_index rfl rfl rfl Try.underlying89 Try.sizeOf114 (hs.below hB11) (by omega) (by first | omega | (simp; done) | (simp; omega))) fun a24 h24 => ?_; clear h22
    refine pk (v := .agg #[.int .i64 y23.1, .int .i64 y23.2]) h24 rfl (rn_loadN rfl rfl Try.underlying114 rfl (by kernel_rfl) (sl_at (hs.below hB11) hy23)) fun a25 h25 => ?_; clear h24
    refine pw h25 rfl (op_callV (args := #[.agg #[.int .i64 y23.1, .int .i64 y23.2], pt N 0]) (R := fun res xw => res = .bool (y23.1 == id) ∧ Below w8.heap.size w8 xw) rfl rfl rfl (by kernel_rfl) (by kernel_rfl) (Try.call127 _ _) (hasId27_any y23 id N w8 (range_below hr hB11)) (by rintro e x ⟨rfl, hb28⟩; exact ⟨_, rfl, ⟨rfl, hb28⟩⟩)) ?_; clear h25
    rintro _ w27 a26 ⟨rfl, hb28⟩ h26
    have hz29 := hb28.size
    refine pl_nil ?_
    refine co_then ?_
    have hB31 := hb_call hB11 hb28
    cases hc30 : (y23.1 == id)
    ·
     rw [hc30] at h26
     have hp32 : ¬ (y23.1 = id) := by first | simpa using hc30 | simpa [and_assoc] using hc30
     clear hc30
     refine co_false h26 rfl ?_
     refine wp_skip ?_
     refine co_blockN ?_
     refine co_then ?_
     refine co_reg ?_
     refine pk (v := .int .i64 ((i + 1 : Nat) : Int)) h26 rfl (rn_arith' rfl rfl rfl rfl rfl rfl (IntWalk.i64_in _ (by omega)) (by omega)) fun a33 h33 => ?_; clear h26
     refine pk0 (v := .int .i64 ((i + 1 : Nat) : Int)) h33 rfl fun a34 h34 => ?_; clear h33
     refine pl_nil ?_
     refine co_then ?_
     refine ⟨(l.length - (i + 1)), by omega, ?_⟩
     exact ⟨i + 1, h34.sub ⟨rfl, rfl, rfl, rfl, rfl, trivial⟩, rfl, by omega, by first | (intro j hj; omega) | exact has_next (by assumption) (by assumption) (by omega), hB31⟩
    ·
     rw [hc30] at h26
     have hp35 : y23.1 = id := by first | simpa using hc30 | simpa [and_assoc] using hc30
     clear hc30
     refine co_true h26 rfl ?_
     refine co_seq ?_
     refine co_reg ?_
     refine pk0 (v := .int .i64 ((i : Nat) : Int)) h26 rfl fun a36 h36 => ?_; clear h26
     refine pk0 (v := .int .i64 ((i : Nat) : Int)) h36 rfl fun a37 h37 => ?_; clear h36
     refine pl_nil ?_
     refine co_then ?_
     refine wp_ret ?_
     refine co_blockR ?_
     refine co_thenR ?_
     refine co_thenR ?_
     refine co_blockR ?_
     refine co_thenR ?_
     refine co_ret1 h37 rfl rfl ?_
     exact ⟨_, rfl, by rw [decide_eq_true (by omega)]; exact hasM_at (by assumption) (by omega), hB31⟩
set_option maxRecDepth 100000 in
theorem containsM_any (v : Value) (l : List MemT) (id : Int) (N : Nat) (w : World) (hs : SliceOf memE 2 w v l) (hr : w.rangeAt N 0 [.int .i64 id]) :
    Calls Try.prog 129 #[v, .func (.func 127) #[] #[pt N 0]] w fun e w' => e = .returned (.bool (hasM l id)) ∧ Below w.heap.size w w' := by
 have hB0 := Below.refl w.heap.size w
 have hl_hs := sl_len hs
 refine co_enter (n := 9) Try.func129 rfl rfl rfl [(0, v), (1, .func (.func 127) #[] #[pt N 0])] rfl (fun a h0 => ?_)
 refine co_seq ?_
 refine co_reg ?_
 refine pk0 (v := .bool false) h0 rfl fun a1 h1 => ?_; clear h0
 refine pl_nil ?_
 refine co_then ?_
 refine co_seq ?_
 refine co_reg ?_
 refine pk0 (v := v) h1 rfl fun a2 h2 => ?_; clear h1
 refine pk0 (v := .func (.func 127) #[] #[pt N 0]) h2 rfl fun a3 h3 => ?_; clear h2
 refine pw h3 rfl (op_call (args := #[v, .func (.func 127) #[] #[pt N 0]]) (R := fun res xw => ∃ j : Int, res = .int .i64 j ∧ decide (j ≥ 0) = hasM l id ∧ Below w.heap.size w xw) rfl rfl rfl (by kernel_rfl) (by kernel_rfl) (Try.call146 _ _) (indexM_any v l id N w hs hr) (by rintro e x ⟨j, rfl, hq7, hb8⟩; exact ⟨_, rfl, ⟨j, rfl, hq7, hb8⟩⟩)) ?_; clear h3
 rintro _ w5 a4 ⟨j6, rfl, hq7, hb8⟩ h4
 have hz9 := hb8.size
 refine pk0 (v := .bool (decide (j6 ≥ 0))) h4 rfl fun a10 h10 => ?_; clear h4
 refine pk0 (v := .bool (decide (j6 ≥ 0))) h10 rfl fun a11 h11 => ?_; clear h10
 refine pl_nil ?_
 refine co_then ?_
 refine wp_ret ?_
 refine co_ret1 h11 rfl rfl ?_
 have hB12 := hb_call hB0 hb8
 exact ⟨ret_bool (by assumption), hB12⟩
set_option maxRecDepth 100000 in
theorem may_any (m : MemT) (w : World) (hm : memOk m) :
    Calls Try.prog 128 #[.agg #[.int .i64 m.1, .int .i64 m.2]] w fun e w' => e = .returned (.bool (mayM m)) ∧ Below w.heap.size w w' := by
 have hB0 := Below.refl w.heap.size w
 refine co_enter (n := 8) Try.func128 rfl rfl rfl [(0, .agg #[.int .i64 m.1, .int .i64 m.2])] rfl (fun a h0 => ?_)
 refine co_seq ?_
 refine co_reg ?_
 refine pw h0 rfl (op_new (v := fun N => pt N 0) (T := 114) (cs := #[.int .i64 m.1, .int .i64 m.2]) (by kernel_rfl) (by kernel_rfl) (by kernel_rfl)) ?_; clear h0
 rintro _ w2 a1 ⟨N3, rfl, hN6, hz7, hk5, hg4⟩ h1
 have hz8 := hg4.size
 try dsimp only at h1
 refine pk0 (v := .bool false) h1 rfl fun a9 h9 => ?_; clear h1
 refine pl_nil ?_
 refine co_then ?_
 refine co_seq ?_
 refine co_reg ?_
 refine pk (v := .agg #[.int .i64 m.1, .int .i64 m.2]) h9 rfl (rn_loadN rfl rfl Try.underlying114 rfl (by kernel_rfl) hk5.all) fun a10 h10 => ?_; clear h9
 refine pw h10 rfl (op_new (v := fun N => .slice (some ⟨N, 0, none⟩) 1 1) (T := 114) (cs := #[.int .i64 m.1, .int .i64 m.2]) (by kernel_rfl) (by kernel_rfl) (by kernel_rfl)) ?_; clear h10
 rintro _ w12 a11 ⟨N13, rfl, hN16, hz17, hk15, hg14⟩ h11
 have hz18 := hg14.size
 try dsimp only at h11
 refine pk0 (v := .agg #[.int .i64 1, .slice (some ⟨N13, 0, none⟩) 1 1, .int .u64 0]) h11 rfl fun a19 h19 => ?_; clear h11
 have hr22 := row_of_cells (enc := memE) (sz := 2) ([(m.1, m.2)] : List MemT) hk15 (Nat.le_refl _) rfl rfl (by unfold maxLen; simp)
 refine pw h19 rfl (op_call (args := #[.agg #[.int .i64 1, .slice (some ⟨N13, 0, none⟩) 1 1, .int .u64 0]]) (R := fun res xw => res = .int .i64 (chkC 1 ([(m.1, m.2)] : List MemT)) ∧ Below w12.heap.size w12 xw) rfl rfl rfl (by kernel_rfl) (by kernel_rfl) (Try.call103 _ _) (wcheck_any 1 (.slice (some ⟨N13, 0, none⟩) 1 1) ([(m.1, m.2)] : List MemT) 0 w12 (row_sl hr22 memE_len) (by intro z hz; simp at hz; subst hz; exact hm) (by omega) (by omega)) (by rintro e x ⟨rfl, hb23⟩; exact ⟨_, rfl, ⟨rfl, hb23⟩⟩)) ?_; clear h19
 rintro _ w21 a20 ⟨rfl, hb23⟩ h20
 have hz24 := hb23.size
 refine pk0 (v := .bool (chkC 1 ([(m.1, m.2)] : List MemT) == 0)) h20 rfl fun a25 h25 => ?_; clear h20
 refine pk0 (v := .bool (chkC 1 ([(m.1, m.2)] : List MemT) == 0)) h25 rfl fun a26 h26 => ?_; clear h25
 refine pl_nil ?_
 refine co_then ?_
 refine wp_ret ?_
 refine co_ret1 h26 rfl rfl ?_
 have hB27 := hb_new hB0 hg4
 have hB28 := hb_new hB27 hg14
 have hB29 := hb_call hB28 hb23
 exact ⟨ret_bool (may_b m), hB29⟩
set_option maxRecDepth 100000 in
theorem joinB_any (m : MemT) (L : Nat) (u : Value) (acc : List MemT) (w : World) (hm : memOk m) (hL : Blk w L 89 #[u]) (hs : SliceOf memE 2 w u acc) :
    Calls Try.prog 126 #[.agg #[.int .i64 m.1, .int .i64 m.2], pt L 0] w fun e w' => e = .returned (.bool (joinB acc m)) ∧ Below w.heap.size w w' := by
 have hB0 := Below.refl w.heap.size w
 have hl_hL := hL.lt
 have hl_hs := sl_len hs
 refine co_enter (n := 19) Try.func126 rfl rfl rfl [(0, .agg #[.int .i64 m.1, .int .i64 m.2]), (1, pt L 0)] rfl (fun a h0 => ?_)
 refine co_seq ?_
 refine co_reg ?_
 refine pw h0 rfl (op_new (v := fun N => pt N 0) (T := 114) (cs := #[.int .i64 m.1, .int .i64 m.2]) (by kernel_rfl) (by kernel_rfl) (by kernel_rfl)) ?_; clear h0
 rintro _ w2 a1 ⟨N3, rfl, hN6, hz7, hk5, hg4⟩ h1
 have hz8 := hg4.size
 try dsimp only at h1
 refine pk0 (v := .bool false) h1 rfl fun a9 h9 => ?_; clear h1
 refine pl_nil ?_
 refine co_then ?_
 refine co_seq ?_
 refine co_reg ?_
 refine pk0 (v := .func (.func 127) #[] #[pt N3 0]) h9 rfl fun a10 h10 => ?_; clear h9
 refine pk0 (v := .func (.func 127) #[] #[pt N3 0]) h10 rfl fun a11 h11 => ?_; clear h10
 refine pl_nil ?_
 refine co_then ?_
 refine co_seq ?_
 refine co_reg ?_
 have hk12 := hL.kept hg4 (by simp)
 refine pk (v := u) h11 rfl (rn_load1 rfl rfl Try.isAgg89 (hk12.cell rfl)) fun a13 h13 => ?_; clear h11
 have hB14 := hb_new hB0 hg4
 refine pk (v := .int .i64 ((acc.length : Nat) : Int)) h13 rfl (rn_len rfl rfl Try.underlying89 (hs.below hB14)) fun a15 h15 => ?_; clear h13
 refine pk0 (v := .bool (decide (((acc.length : Nat) : Int) < 4))) h15 rfl fun a16 h16 => ?_; clear h15
 refine pk0 (v := .bool (decide (((acc.length : Nat) : Int) < 4))) h16 rfl fun a17 h17 => ?_; clear h16
 cases hc18 : (decide (((acc.length : Nat) : Int) < 4))
 ·
  rw [hc18] at h17
  have hp19 : ¬ (((acc.length : Nat) : Int) < 4) := of_decide_eq_false hc18
  clear hc18
  refine psk h17 rfl fun a20 h20 => ?_; clear h17
  refine psk h20 rfl fun a21 h21 => ?_; clear h20
  refine pk0 (v := .bool false) h21 rfl fun a22 h22 => ?_; clear h21
  refine pk0 (v := .bool false) h22 rfl fun a23 h23 => ?_; clear h22
  refine psk h23 rfl fun a24 h24 => ?_; clear h23
  refine psk h24 rfl fun a25 h25 => ?_; clear h24
  refine psk h25 rfl fun a26 h26 => ?_; clear h25
  refine psk h26 rfl fun a27 h27 => ?_; clear h26
  refine pk0 (v := .bool false) h27 rfl fun a28 h28 => ?_; clear h27
  refine pk0 (v := .bool false) h28 rfl fun a29 h29 => ?_; clear h28
  refine pl_nil ?_
  refine co_then ?_
  refine wp_ret ?_
  refine co_ret1 h29 rfl rfl ?_
  exact ⟨ret_bool (by first | exact joinB_y (by omega) (by assumption) (by assumption) | exact joinB_1 (by omega) | exact joinB_2 (by assumption) | exact joinB_3 (by assumption)), hB14⟩
 ·
  rw [hc18] at h17
  have hp30 : ((acc.length : Nat) : Int) < 4 := of_decide_eq_true hc18
  clear hc18
  refine pk (v := .agg #[.int .i64 m.1, .int .i64 m.2]) h17 rfl (rn_loadN rfl rfl Try.underlying114 rfl (by kernel_rfl) hk5.all) fun a31 h31 => ?_; clear h17
  refine pw h31 rfl (op_call (args := #[.agg #[.int .i64 m.1, .int .i64 m.2]]) (R := fun res xw => res = .bool (mayM m) ∧ Below w2.heap.size w2 xw) rfl rfl rfl (by kernel_rfl) (by kernel_rfl) (Try.call128 _ _) (may_any m w2 hm) (by rintro e x ⟨rfl, hb34⟩; exact ⟨_, rfl, ⟨rfl, hb34⟩⟩)) ?_; clear h31
  rintro _ w33 a32 ⟨rfl, hb34⟩ h32
  have hz35 := hb34.size
  refine pk0 (v := .bool (mayM m)) h32 rfl fun a36 h36 => ?_; clear h32
  refine pk0 (v := .bool (mayM m)) h36 rfl fun a37 h37 => ?_; clear h36
  have hB39 := hb_call hB14 hb34
  cases hc38 : (mayM m)
  ·
   rw [hc38] at h37
   refine psk h37 rfl fun a40 h40 => ?_; clear h37
   refine psk h40 rfl fun a41 h41 => ?_; clear h40
   refine psk h41 rfl fun a42 h42 => ?_; clear h41
   refine psk h42 rfl fun a43 h43 => ?_; clear h42
   refine pk0 (v := .bool false) h43 rfl fun a44 h44 => ?_; clear h43
   refine pk0 (v := .bool false) h44 rfl fun a45 h45 => ?_; clear h44
   refine pl_nil ?_
   refine co_then ?_
   refine wp_ret ?_
   refine co_ret1 h45 rfl rfl ?_
   exact ⟨ret_bool (by first | exact joinB_y (by omega) (by assumption) (by assumption) | exact joinB_1 (by omega) | exact joinB_2 (by assumption) | exact joinB_3 (by assumption)), hB39⟩
  ·
   rw [hc38] at h37
   have hk46 := hk12.below hb34
   refine pk (v := u) h37 rfl (rn_load1 rfl rfl Try.isAgg89 (hk46.cell rfl)) fun a47 h47 => ?_; clear h37
   refine pk0 (v := .func (.func 127) #[] #[pt N3 0]) h47 rfl fun a48 h48 => ?_; clear h47
   have hk51 := hk5.below hb34
   refine pw h48 rfl (op_call (args := #[u, .func (.func 127) #[] #[pt N3 0]]) (R := fun res xw => res = .bool (hasM acc m.1) ∧ Below w33.heap.size w33 xw) rfl rfl rfl (by kernel_rfl) (by kernel_rfl) (Try.call129 _ _) (containsM_any u acc m.1 N3 w33 (hs.below hB39) (blk_part hk51 0 rfl)) (by rintro e x ⟨rfl, hb52⟩; exact ⟨_, rfl, ⟨rfl, hb52⟩⟩)) ?_; clear h48
   rintro _ w50 a49 ⟨rfl, hb52⟩ h49
   have hz53 := hb52.size
   have hB55 := hb_call hB39 hb52
   cases hc54 : (hasM acc m.1)
   ·
    rw [hc54] at h49
    refine pk0 (v := .bool true) h49 rfl fun a56 h56 => ?_; clear h49
    refine pk0 (v := .bool true) h56 rfl fun a57 h57 => ?_; clear h56
    refine pk0 (v := .bool true) h57 rfl fun a58 h58 => ?_; clear h57
    refine pl_nil ?_
    refine co_then ?_
    refine wp_ret ?_
    refine co_ret1 h58 rfl rfl ?_
    exact ⟨ret_bool (by first | exact joinB_y (by omega) (by assumption) (by assumption) | exact joinB_1 (by omega) | exact joinB_2 (by assumption) | exact joinB_3 (by assumption)), hB55⟩
   ·
    rw [hc54] at h49
    refine pk0 (v := .bool false) h49 rfl fun a59 h59 => ?_; clear h49
    refine pk0 (v := .bool false) h59 rfl fun a60 h60 => ?_; clear h59
    refine pk0 (v := .bool false) h60 rfl fun a61 h61 => ?_; clear h60
    refine pl_nil ?_
    refine co_then ?_
    refine wp_ret ?_
    refine co_ret1 h61 rfl rfl ?_
    exact ⟨ret_bool (by first | exact joinB_y (by omega) (by assumption) (by assumption) | exact joinB_1 (by omega) | exact joinB_2 (by assumption) | exact joinB_3 (by assumption)), hB55⟩
set_option maxRecDepth 100000 in
theorem in_any (v : Value) (l : List Int) (n : Int) (w : World) (hs : SliceOf (intE .i64) 1 w v l) :
    Calls Try.prog 70 #[v, .int .i64 n] w fun e w' => e = .returned (.bool (inL l n)) ∧ Below w.heap.size w w' := by
 have hB0 := Below.refl w.heap.size w
 have hl_hs := sl_len hs
 refine co_enter (n := 18) Try.func70 rfl rfl rfl [(0, v), (1, .int .i64 n)] rfl (fun a h0 => ?_)
 refine co_seq ?_
 refine co_reg ?_
 refine pk0 (v := .bool false) h0 rfl fun a1 h1 => ?_; clear h0
 refine pl_nil ?_
 refine co_then ?_
 refine co_seq ?_
 refine co_seq ?_
 refine co_reg ?_
 refine pk0 (v := .int .i64 0) h1 rfl fun a2 h2 => ?_; clear h1
 refine pl_nil ?_
 refine co_then ?_
 refine wp_block ?_
 have h3 : Slots 18 [(0, v), (1, .int .i64 n), (5, .int .i64 0)] _ := h2.sub ⟨rfl, rfl, rfl, trivial⟩; clear h2
 refine co_loop (fun mm a x => ∃ (i : Nat), Slots 18 [(0, v), (1, .int .i64 n), (5, .int .i64 ((i : Nat) : Int))] a ∧ mm = l.length - i ∧ (i ≤ l.length) ∧ (∀ j, j < i → ∀ z, l[j]? = some z → z ≠ n) ∧ Below w.heap.size w x) (l.length - 0) ?_ ?_
 · exact ⟨0, h3.sub ⟨rfl, rfl, (slot_eq rfl (congrArg (Value.int .i64) (by first | rfl | omega))), trivial⟩, rfl, by omega, by first | (intro j hj; omega) | exact in_next (by assumption) (by assumption) (by omega), hB0⟩
 · rintro k4 a5 w6 ⟨i, h5, rfl, hi7, hi8, hB9⟩
   have hz10 := hB9.size
   refine co_seq ?_
   refine co_seq ?_
   refine co_reg ?_
   refine pk0 (v := .int .i64 ((i : Nat) : Int)) h5 rfl fun a11 h11 => ?_; clear h5
   refine pk0 (v := v) h11 rfl fun a12 h12 => ?_; clear h11
   refine pk (v := .int .i64 ((l.length : Nat) : Int)) h12 rfl (rn_len rfl rfl Try.underlying37 (hs.below hB9)) fun a13 h13 => ?_; clear h12
   refine pk0 (v := .bool (decide (((i : Nat) : Int) < ((l.length : Nat) : Int)))) h13 rfl fun a14 h14 => ?_; clear h13
   refine pl_nil ?_
   refine co_then ?_
   cases hc15 : (decide (((i : Nat) : Int) < ((l.length : Nat) : Int)))
   ·
    rw [hc15] at h14
    have hp16 : ¬ (((i : Nat) : Int) < ((l.length : Nat) : Int)) := of_decide_eq_false hc15
    clear hc15
    refine co_false h14 rfl ?_
    refine wp_exit ?_
    refine co_thenX ?_
    refine co_thenX ?_
    refine co_blockX ?_
    refine co_then ?_
    refine co_seq ?_
    refine co_reg ?_
    refine pk0 (v := .bool false) h14 rfl fun a17 h17 => ?_; clear h14
    refine pl_nil ?_
    refine co_then ?_
    refine wp_ret ?_
    refine co_ret1 h17 rfl rfl ?_
    exact ⟨ret_bool (by first | exact inL_at (by assumption) (by assumption) (by omega) | exact inL_end (i := i) (by assumption) (by omega)), hB9⟩
   ·
    rw [hc15] at h14
    have hp18 : ((i : Nat) : Int) < ((l.length : Nat) : Int) := of_decide_eq_true hc15
    clear hc15
    refine co_true h14 rfl ?_
    refine wp_skip ?_
    refine co_then ?_
    refine co_seq ?_
    refine wp_block ?_
    refine co_seq ?_
    refine co_reg ?_
    refine pk0 (v := v) h14 rfl fun a19 h19 => ?_; clear h14
    refine pk0 (v := .int .i64 ((i : Nat) : Int)) h19 rfl fun a20 h20 => ?_; clear h19
    obtain ⟨y21, hy21⟩ : ∃ z, l[i]? = some z := ⟨_, List.getElem?_eq_getElem (by first | omega | (simp; done) | (simp; omega))⟩
    refine pk (v := pt (blkOf v) (offOf v + i * 1)) h20 rfl (rn_index rfl rfl rfl Try.underlying37 Try.sizeOf3 (hs.below hB9) (by omega) (by first | omega | (simp; done) | (simp; omega))) fun a22 h22 => ?_; clear h20
    refine pk (v := .int .i64 y21) h22 rfl (rn_load1 rfl rfl Try.isAgg3 ((sl_at (hs.below hB9) hy21) 0 _ rfl)) fun a23 h23 => ?_; clear h22
    refine pk0 (v := .int .i64 n) h23 rfl fun a24 h24 => ?_; clear h23
    refine pk0 (v := .bool (y21 == n)) h24 rfl fun a25 h25 => ?_; clear h24
    refine pl_nil ?_
    refine co_then ?_
    cases hc26 : (y21 == n)
    ·
     rw [hc26] at h25
     have hp27 : ¬ (y21 = n) := by first | simpa using hc26 | simpa [and_assoc] using hc26
     clear hc26
     refine co_false h25 rfl ?_
     refine wp_skip ?_
     refine co_blockN ?_
     refine co_then ?_
     refine co_reg ?_
     refine pk0 (v := .int .i64 ((i : Nat) : Int)) h25 rfl fun a28 h28 => ?_; clear h25
     refine pk (v := .int .i64 ((i + 1 : Nat) : Int)) h28 rfl (rn_arith' rfl rfl rfl rfl rfl rfl (IntWalk.i64_in _ (by omega)) (by omega)) fun a29 h29 => ?_; clear h28
     refine pk0 (v := .int .i64 ((i + 1 : Nat) : Int)) h29 rfl fun a30 h30 => ?_; clear h29
     refine pl_nil ?_
     refine co_then ?_
     refine ⟨(l.length - (i + 1)), by omega, ?_⟩
     exact ⟨i + 1, h30.sub ⟨rfl, rfl, rfl, trivial⟩, rfl, by omega, by first | (intro j hj; omega) | exact in_next (by assumption) (by assumption) (by omega), hB9⟩
    ·
     rw [hc26] at h25
     have hp31 : y21 = n := by first | simpa using hc26 | simpa [and_assoc] using hc26
     clear hc26
     refine co_true h25 rfl ?_
     refine co_seq ?_
     refine co_reg ?_
     refine pk0 (v := .bool true) h25 rfl fun a32 h32 => ?_; clear h25
     refine pl_nil ?_
     refine co_then ?_
     refine wp_ret ?_
     refine co_blockR ?_
     refine co_thenR ?_
     refine co_thenR ?_
     refine co_blockR ?_
     refine co_thenR ?_
     refine co_ret1 h32 rfl rfl ?_
     exact ⟨ret_bool (by first | exact inL_at (by assumption) (by assumption) (by omega) | exact inL_end (i := i) (by assumption) (by omega)), hB9⟩
set_option maxRecDepth 100000 in
theorem has_any (v : Value) (l : List MemT) (n : Int) (w : World) (hs : SliceOf memE 2 w v l) :
    Calls Try.prog 130 #[v, .int .i64 n] w fun e w' => e = .returned (.bool (hasM l n)) ∧ Below w.heap.size w w' := by
 have hB0 := Below.refl w.heap.size w
 have hl_hs := sl_len hs
 refine co_enter (n := 19) Try.func130 rfl rfl rfl [(0, v), (1, .int .i64 n)] rfl (fun a h0 => ?_)
 refine co_seq ?_
 refine co_reg ?_
 refine pk0 (v := .bool false) h0 rfl fun a1 h1 => ?_; clear h0
 refine pl_nil ?_
 refine co_then ?_
 refine co_seq ?_
 refine co_seq ?_
 refine co_reg ?_
 refine pk0 (v := .int .i64 0) h1 rfl fun a2 h2 => ?_; clear h1
 refine pl_nil ?_
 refine co_then ?_
 refine wp_block ?_
 have h3 : Slots 19 [(0, v), (1, .int .i64 n), (5, .int .i64 0)] _ := h2.sub ⟨rfl, rfl, rfl, trivial⟩; clear h2
 refine co_loop (fun mm a x => ∃ (i : Nat), Slots 19 [(0, v), (1, .int .i64 n), (5, .int .i64 ((i : Nat) : Int))] a ∧ mm = l.length - i ∧ (i ≤ l.length) ∧ (∀ j, j < i → ∀ z, l[j]? = some z → z.1 ≠ n) ∧ Below w.heap.size w x) (l.length - 0) ?_ ?_
 · exact ⟨0, h3.sub ⟨rfl, rfl, (slot_eq rfl (congrArg (Value.int .i64) (by first | rfl | omega))), trivial⟩, rfl, by omega, by first | (intro j hj; omega) | exact has_next (by assumption) (by assumption) (by omega), hB0⟩
 · rintro k4 a5 w6 ⟨i, h5, rfl, hi7, hi8, hB9⟩
   have hz10 := hB9.size
   refine co_seq ?_
   refine co_seq ?_
   refine co_reg ?_
   refine pk0 (v := .int .i64 ((i : Nat) : Int)) h5 rfl fun a11 h11 => ?_; clear h5
   refine pk0 (v := v) h11 rfl fun a12 h12 => ?_; clear h11
   refine pk (v := .int .i64 ((l.length : Nat) : Int)) h12 rfl (rn_len rfl rfl Try.underlying89 (hs.below hB9)) fun a13 h13 => ?_; clear h12
   refine pk0 (v := .bool (decide (((i : Nat) : Int) < ((l.length : Nat) : Int)))) h13 rfl fun a14 h14 => ?_; clear h13
   refine pl_nil ?_
   refine co_then ?_
   cases hc15 : (decide (((i : Nat) : Int) < ((l.length : Nat) : Int)))
   ·
    rw [hc15] at h14
    have hp16 : ¬ (((i : Nat) : Int) < ((l.length : Nat) : Int)) := of_decide_eq_false hc15
    clear hc15
    refine co_false h14 rfl ?_
    refine wp_exit ?_
    refine co_thenX ?_
    refine co_thenX ?_
    refine co_blockX ?_
    refine co_then ?_
    refine co_seq ?_
    refine co_reg ?_
    refine pk0 (v := .bool false) h14 rfl fun a17 h17 => ?_; clear h14
    refine pl_nil ?_
    refine co_then ?_
    refine wp_ret ?_
    refine co_ret1 h17 rfl rfl ?_
    exact ⟨ret_bool (by first | exact hasM_at (by assumption) (by omega) | exact hasM_end (i := i) (by assumption) (by omega)), hB9⟩
   ·
    rw [hc15] at h14
    have hp18 : ((i : Nat) : Int) < ((l.length : Nat) : Int) := of_decide_eq_true hc15
    clear hc15
    refine co_true h14 rfl ?_
    refine wp_skip ?_
    refine co_then ?_
    refine co_seq ?_
    refine wp_block ?_
    refine co_seq ?_
    refine co_reg ?_
    refine pk0 (v := v) h14 rfl fun a19 h19 => ?_; clear h14
    refine pk0 (v := .int .i64 ((i : Nat) : Int)) h19 rfl fun a20 h20 => ?_; clear h19
    obtain ⟨y21, hy21⟩ : ∃ z, l[i]? = some z := ⟨_, List.getElem?_eq_getElem (by first | omega | (simp; done) | (simp; omega))⟩
    refine pk (v := pt (blkOf v) (offOf v + i * 2)) h20 rfl (rn_index rfl rfl rfl Try.underlying89 Try.sizeOf114 (hs.below hB9) (by omega) (by first | omega | (simp; done) | (simp; omega))) fun a22 h22 => ?_; clear h20
    refine pk0 (v := pt (blkOf v) (offOf v + i * 2)) h22 rfl fun a23 h23 => ?_; clear h22
    refine pk (v := .int .i64 y21.1) h23 rfl (rn_load1 rfl rfl Try.isAgg3 ((sl_at (hs.below hB9) hy21) 0 _ rfl)) fun a24 h24 => ?_; clear h23
    refine pk0 (v := .int .i64 n) h24 rfl fun a25 h25 => ?_; clear h24
    refine pk0 (v := .bool (y21.1 == n)) h25 rfl fun a26 h26 => ?_; clear h25
    refine pl_nil ?_
    refine co_then ?_
    cases hc27 : (y21.1 == n)
    ·
     rw [hc27] at h26
     have hp28 : ¬ (y21.1 = n) := by first | simpa using hc27 | simpa [and_assoc] using hc27
     clear hc27
     refine co_false h26 rfl ?_
     refine wp_skip ?_
     refine co_blockN ?_
     refine co_then ?_
     refine co_reg ?_
     refine pk0 (v := .int .i64 ((i : Nat) : Int)) h26 rfl fun a29 h29 => ?_; clear h26
     refine pk (v := .int .i64 ((i + 1 : Nat) : Int)) h29 rfl (rn_arith' rfl rfl rfl rfl rfl rfl (IntWalk.i64_in _ (by omega)) (by omega)) fun a30 h30 => ?_; clear h29
     refine pk0 (v := .int .i64 ((i + 1 : Nat) : Int)) h30 rfl fun a31 h31 => ?_; clear h30
     refine pl_nil ?_
     refine co_then ?_
     refine ⟨(l.length - (i + 1)), by omega, ?_⟩
     exact ⟨i + 1, h31.sub ⟨rfl, rfl, rfl, trivial⟩, rfl, by omega, by first | (intro j hj; omega) | exact has_next (by assumption) (by assumption) (by omega), hB9⟩
    ·
     rw [hc27] at h26
     have hp32 : y21.1 = n := by first | simpa using hc27 | simpa [and_assoc] using hc27
     clear hc27
     refine co_true h26 rfl ?_
     refine co_seq ?_
     refine co_reg ?_
     refine pk0 (v := .bool true) h26 rfl fun a33 h33 => ?_; clear h26
     refine pl_nil ?_
     refine co_then ?_
     refine wp_ret ?_
     refine co_blockR ?_
     refine co_thenR ?_
     refine co_thenR ?_
     refine co_blockR ?_
     refine co_thenR ?_
     refine co_ret1 h33 rfl rfl ?_
     exact ⟨ret_bool (by first | exact hasM_at (by assumption) (by omega) | exact hasM_end (i := i) (by assumption) (by omega)), hB9⟩
end Go.Proofs.Ytcnahhobppnbbaa
