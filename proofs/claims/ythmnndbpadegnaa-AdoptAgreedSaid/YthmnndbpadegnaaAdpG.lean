/- catenalaw18: AdoptAgain. Conditions: none. -/
import Derived.Test.YthmnndbpadegnaaAdpF
namespace Go.Proofs.Ythmnndbpadegnaa
open Go.RowKit Go.PlainAid
set_option linter.unusedVariables false
set_option linter.unusedSimpArgs false


section
variable {P : Program} {n : Nat} {m : List (Nat × Value)} {o : Oper} {w : World}
theorem rn_remA {T T' : TypeId} {x y : Operand} {k : IntKind} {i j z : Int} (ho : o.op = .binOp .rem T x y T') (hx : ev m x = some (.int k i)) (hy : ev m y = some (.int k j)) (hj : j ≠ 0) (hcl : binOp .rem T (.int k i) (.int k j) = Op.intDiv .rem k i j) (hz : i.tmod j = z) : (execOp (lk m) o).run P w = .ok (.value (.int k z)) w := by
  unfold execOp
  have hg : (eqGuard .rem T x y (.int k i) (.int k j)).run P w = .ok () w := by unfold eqGuard; rfl
  subst hz
  simp only [ho, lk_ev hx, lk_ev hy, Sem.run_bind, hg, hcl, Op.intDiv, hj, if_false, Result.andThen_ok]
  rfl
end
theorem rem_in {i j : Int} (h : 0 ≤ i) (hj : 0 < j) : 0 ≤ i.tmod j ∧ i.tmod j < j := ⟨Int.tmod_nonneg j h, Int.tmod_lt_of_pos i hj⟩
section
variable {l l2 X : List EntT} {NS : List NtT} {k n : Nat} {y : NtT} {a b : EntT}
/-- What both have alike. -/
def PreP (l l2 : List EntT) (k : Nat) : Prop := ∀ i, i < k → ∀ a b, l[i]? = some a → l2[i]? = some b → nmE a = nmE b ∧ a.ts = b.ts
theorem pre_next (h : PreP l l2 k) (ha : l[k]? = some a) (hb : l2[k]? = some b) (hn : (a.client = b.client ∧ a.req = b.req) ∧ a.ts = b.ts) : PreP l l2 (k + 1) := fun i hi p q hp hq => by
  by_cases e : i = k
  · subst e; rw [ha] at hp; rw [hb] at hq; cases hp; cases hq; exact ⟨Prod.ext hn.1.1 hn.1.2, hn.2⟩
  · exact h i (by omega) p q hp hq
theorem pre_agr (h : PreP l l2 k) (h1 : k ≤ l.length) (h2 : k ≤ l2.length) : Agr (l.map e0) l2 k := ⟨by rw [len_nrm]; exact h1, h2, fun i a b hi ha hb => by
  rw [List.getElem?_map] at ha
  obtain ⟨z, hz, rfl⟩ := Option.map_eq_some_iff.1 ha
  obtain ⟨t1, t2⟩ := h i hi z b hz hb
  exact ⟨t1, fun _ => t2⟩⟩
theorem agd1 (h : PreP l l2 k) (h1 : k ≤ l.length) (h2 : k ≤ l2.length) : (∀ p ∈ (tkF (l.map e0) 0 0 l2).1, k ≤ p.1) ∧ (tkF (l.map e0) 0 0 l2).2.2.take k = (l.map e0).take k ∧ k ≤ (tkF (l.map e0) 0 0 l2).2.2.length := by
  have hl : (l2.take k).length = k := by rw [List.length_take]; omega
  have hs := skip_all (l2.take k) 0 (pre_agr h h1 h2) (fun i e he => by
    by_cases hi : i < k
    · rw [List.getElem?_take_of_lt hi] at he; rw [Nat.zero_add]; exact he
    · rw [List.getElem?_eq_none (by omega)] at he; cases he) (by omega) (l2.drop k)
  rw [List.take_append_drop, hl, Nat.zero_add] at hs
  rw [hs]
  obtain ⟨g1, g2, g3, -⟩ := tk_ge (l2.drop k) (l.map e0) k k (by rw [e0_e0]) (by rw [len_nrm]; exact h1)
  exact ⟨g1, g2, g3⟩
theorem agd_n (h : ∀ p ∈ (tkF (l.map e0) 0 0 l2).1, k ≤ p.1) (hq : NS.map ntP = (tkF (l.map e0) 0 0 l2).1) (hy : y ∈ NS) (h0 : 0 ≤ y.n) : ((k : Nat) : Int) ≤ y.n := by
  have := h (ntP y) (by rw [← hq]; exact List.mem_map_of_mem hy)
  have h2 : k ≤ y.n.toNat := this
  omega
theorem agd_x (h : (tkF (l.map e0) 0 0 l2).2.2.take k = (l.map e0).take k) (hl : k ≤ (tkF (l.map e0) 0 0 l2).2.2.length) (hX : X.map e0 = (tkF (l.map e0) 0 0 l2).2.2) : (X.take k).map e0 = (l.take k).map e0 ∧ k ≤ X.length := by
  rw [← hX] at h hl
  exact ⟨by rw [List.map_take, List.map_take]; exact h, by rw [len_nrm] at hl; exact hl⟩
theorem base_ge (h : BaseP l l2 n) (hp : PreP l l2 k) (h1 : k ≤ l.length) (h2 : k ≤ l2.length) : k ≤ n := by
  rcases Nat.lt_or_ge n k with hlt | hge
  · obtain ⟨p, hpp⟩ : ∃ p, l[n]? = some p := ⟨_, List.getElem?_eq_getElem (by omega)⟩
    obtain ⟨q, hq⟩ : ∃ q, l2[n]? = some q := ⟨_, List.getElem?_eq_getElem (by omega)⟩
    exact absurd (hp n hlt p q hpp hq).1 (h.2.2.2 (by omega) (by omega) p q hpp hq)
  · exact hge
theorem ag1 (hR : RI l) (hl : l.length ≤ 100) (hO : RI l2) (ho : l2.length ≤ 60) : (tkF (l.map e0) 0 0 l2).2.1 = l2.length ∧ ∀ X' : List EntT, X'.map e0 = (tkF (l.map e0) 0 0 l2).2.2 → AllI X' l2 l2.length := by
  obtain ⟨h1, h2, h3, h4⟩ := tk_all hO (by omega) l2 (l.map e0) 0 (ri_nrm hR) (by rw [len_nrm]; exact hl) Agr.zero (fun i e he => by rw [Nat.zero_add]; exact he)
  rw [Nat.zero_add] at h1 h2
  exact ⟨h1, fun X' hX => AllI.re h3 h4 h2 hX⟩
theorem ag2 (h : AllI X l2 l2.length) : tkF (X.map e0) 0 0 l2 = ([], l2.length, X.map e0) := by
  have := skip_end h.2.2 l2 0 (fun i e he => by rw [Nat.zero_add]; exact he) (by omega)
  rwa [Nat.zero_add] at this
theorem ag3 (hk : k ≤ l2.length) : tkF (X.map e0) l2.length k (l2.drop k) = ([], l2.length, X.map e0) := below_all _ _ (by rw [List.length_drop]; omega)
theorem ag4 (l : List EntT) : tkF (l.map e0) 0 0 l = ([], l.length, l.map e0) := by
  have h : Agr (l.map e0) l l.length := pre_agr (fun i _ a b ha hb => by rw [ha] at hb; cases hb; exact ⟨rfl, rfl⟩) (Nat.le_refl _) (Nat.le_refl _)
  have := skip_end h l 0 (fun i e he => by rw [Nat.zero_add]; exact he) (by omega)
  rwa [Nat.zero_add] at this
theorem nil_of {M : List EntT} {q : Nat} (h : NS.map ntP = (([], q, M) : List (Nat × EntT) × Nat × List EntT).1) : NS.length = 0 := by
  have := congrArg List.length h; simpa using this
end

set_option maxRecDepth 100000 in
set_option maxHeartbeats 6400000 in
theorem adoptAgain_law (v : Value) (l : List EntT) (v2 : Value) (l2 : List EntT) (fr : Int) (w : World) (hs : SliceOf entE 4 w v l) (hok : ∀ z ∈ l, EntOkS w z) (hs2 : SliceOf entE 4 w v2 l2) (hok2 : ∀ z ∈ l2, EntOkS w z) (hlA : l.length ≤ 2932031007403) (hlB : l2.length ≤ 2932031007403) (hfr : 0 ≤ fr ∧ fr ≤ 255) :
    Calls Try.prog 10 #[v, v2, .int .u8 fr] w fun e w' => e = .returned (.bool true) ∧ Below w.heap.size w w' := by
 have hB0 := Below.refl w.heap.size w
 have hl_hs := sl_len hs
 have hl_hs2 := sl_len hs2
 refine co_enter (n := 117) Try.func10 rfl rfl rfl [(0, v), (1, v2), (2, .int .u8 fr)] rfl (fun a h0 => ?_)
 refine co_seq ?_
 refine co_reg ?_
 refine pk0 (v := .bool false) h0 rfl fun a1 h1 => ?_; clear h0
 refine pl_nil ?_
 refine co_then ?_
 refine co_seq ?_
 refine co_seq ?_
 refine co_reg ?_
 refine pk0 (v := v) h1 rfl fun a2 h2 => ?_; clear h1
 refine pw h2 rfl (op_call (args := #[v]) (R := fun res xw => res = .int .i64 (muchN l) ∧ Below w.heap.size w xw) rfl rfl rfl (by kernel_rfl) (by kernel_rfl) (Try.call41 _ _) (much_any v l w (hs.below hB0) (fun z hz => ⟨(hok z hz).1.below hB0, (hok z hz).2⟩) hlA) (by rintro e x ⟨rfl, h⟩; exact ⟨_, rfl, rfl, h⟩)) ?_; clear h2
 rintro _ w4 a3 ⟨rfl, hb5⟩ h3
 have hz6 := hb5.size
 refine pk0 (v := .bool (decide (muchN l > 60))) h3 rfl fun a7 h7 => ?_; clear h3
 refine pk0 (v := .bool (decide (muchN l > 60))) h7 rfl fun a8 h8 => ?_; clear h7
 have hB10 := hb_call hB0 hb5
 cases hc9 : (decide (muchN l > 60))
 ·
  rw [hc9] at h8
  have hp11 : ¬ (muchN l > 60) := of_decide_eq_false hc9
  clear hc9
  refine pk0 (v := v2) h8 rfl fun a12 h12 => ?_; clear h8
  refine pw h12 rfl (op_call (args := #[v2]) (R := fun res xw => res = .int .i64 (muchN l2) ∧ Below w4.heap.size w4 xw) rfl rfl rfl (by kernel_rfl) (by kernel_rfl) (Try.call41 _ _) (much_any v2 l2 w4 (hs2.below hB10) (fun z hz => ⟨(hok2 z hz).1.below hB10, (hok2 z hz).2⟩) hlB) (by rintro e x ⟨rfl, h⟩; exact ⟨_, rfl, rfl, h⟩)) ?_; clear h12
  rintro _ w14 a13 ⟨rfl, hb15⟩ h13
  have hz16 := hb15.size
  refine pk0 (v := .bool (decide (muchN l2 > 60))) h13 rfl fun a17 h17 => ?_; clear h13
  refine pk0 (v := .bool (decide (muchN l2 > 60))) h17 rfl fun a18 h18 => ?_; clear h17
  refine pk0 (v := .bool (decide (muchN l2 > 60))) h18 rfl fun a19 h19 => ?_; clear h18
  have hB21 := hb_call hB10 hb15
  cases hc20 : (decide (muchN l2 > 60))
  ·
   rw [hc20] at h19
   have hp22 : ¬ (muchN l2 > 60) := of_decide_eq_false hc20
   clear hc20
   refine pk0 (v := v) h19 rfl fun a23 h23 => ?_; clear h19
   refine pw h23 rfl (op_call (args := #[v]) (R := fun res xw => res = .int .i64 (rightI l) ∧ Below w14.heap.size w14 xw) rfl rfl rfl (by kernel_rfl) (by kernel_rfl) (Try.call34 _ _) (ritemRight_any v l w14 (hs.below hB21) (fun z hz => (hok z hz).1.below hB21)) (by rintro e x ⟨rfl, h⟩; exact ⟨_, rfl, rfl, h⟩)) ?_; clear h23
   rintro _ w25 a24 ⟨rfl, hb26⟩ h24
   have hz27 := hb26.size
   refine pk0 (v := .bool (rightI l != 0)) h24 rfl fun a28 h28 => ?_; clear h24
   refine pk0 (v := .bool (rightI l != 0)) h28 rfl fun a29 h29 => ?_; clear h28
   refine pk0 (v := .bool (rightI l != 0)) h29 rfl fun a30 h30 => ?_; clear h29
   have hB32 := hb_call hB21 hb26
   cases hc31 : (rightI l != 0)
   ·
    rw [hc31] at h30
    have hp33 : ¬ (rightI l ≠ 0) := by first | simpa using hc31 | simpa [and_assoc] using hc31
    clear hc31
    refine pk0 (v := v2) h30 rfl fun a34 h34 => ?_; clear h30
    refine pw h34 rfl (op_call (args := #[v2]) (R := fun res xw => res = .int .i64 (rightI l2) ∧ Below w25.heap.size w25 xw) rfl rfl rfl (by kernel_rfl) (by kernel_rfl) (Try.call34 _ _) (ritemRight_any v2 l2 w25 (hs2.below hB32) (fun z hz => (hok2 z hz).1.below hB32)) (by rintro e x ⟨rfl, h⟩; exact ⟨_, rfl, rfl, h⟩)) ?_; clear h34
    rintro _ w36 a35 ⟨rfl, hb37⟩ h35
    have hz38 := hb37.size
    refine pk0 (v := .bool (rightI l2 != 0)) h35 rfl fun a39 h39 => ?_; clear h35
    refine pk0 (v := .bool (rightI l2 != 0)) h39 rfl fun a40 h40 => ?_; clear h39
    refine pl_nil ?_
    refine co_then ?_
    have hB42 := hb_call hB32 hb37
    cases hc41 : (rightI l2 != 0)
    ·
     rw [hc41] at h40
     have hp43 : ¬ (rightI l2 ≠ 0) := by first | simpa using hc41 | simpa [and_assoc] using hc41
     clear hc41
     refine co_false h40 rfl ?_
     refine wp_skip ?_
     refine co_then ?_
     refine co_seq ?_
     refine co_reg ?_
     refine pk0 (v := v) h40 rfl fun a44 h44 => ?_; clear h40
     refine pk0 (v := v2) h44 rfl fun a45 h45 => ?_; clear h44
     have hRI := RI.of_right (by omega : rightI l = 0)
     have hRO := RI.of_right (by omega : rightI l2 = 0)
     have hlA60 := much_60 (by omega : ¬ muchN l > 60)
     have hlB60 := much_60 (by omega : ¬ muchN l2 > 60)
     have ha1 := ag1 hRI (by omega) hRO hlB60
     refine pw h45 rfl (op_call (args := #[v, .int .i64 0, .int .i64 0, v2]) (R := fun res xw => ∃ (u : Value) (NS : List NtT), res = .tuple #[u, .int .i64 ((l2.length : Nat) : Int)] ∧ NtX xw u NS ∧ NS.map ntP = (tkF (l.map e0) 0 0 l2).1 ∧ Below w36.heap.size w36 xw) rfl rfl rfl (by kernel_rfl) (by kernel_rfl) (Try.call43 _ _) (takeX 0 0 w36 ((SlX.of hs hok hRI).below hB42) ((SlX.of hs2 hok2 hRO).below hB42) hRI (by omega) (by omega) (by omega)) (by rintro e x ⟨u, NS, h0, h⟩; rw [ha1.1] at h0; exact ⟨_, h0, u, NS, rfl, h⟩)) ?_; clear h45
     rintro _ w47 a46 ⟨u48, NS49, rfl, hN50, hq51, hb52⟩ h46
     have hz53 := hb52.size
     have hl54 := sl_len hN50.1
     refine pk0 (v := .tuple #[u48, .int .i64 ((l2.length : Nat) : Int)]) h46 rfl fun a55 h55 => ?_; clear h46
     refine pk0 (v := u48) h55 rfl fun a56 h56 => ?_; clear h55
     refine pk0 (v := .int .i64 ((l2.length : Nat) : Int)) h56 rfl fun a57 h57 => ?_; clear h56
     refine pk0 (v := u48) h57 rfl fun a58 h58 => ?_; clear h57
     refine pk0 (v := .int .i64 ((l2.length : Nat) : Int)) h58 rfl fun a59 h59 => ?_; clear h58
     refine pl_nil ?_
     refine co_then ?_
     refine co_seq ?_
     refine co_reg ?_
     refine pk0 (v := v) h59 rfl fun a60 h60 => ?_; clear h59
     refine pk0 (v := u48) h60 rfl fun a61 h61 => ?_; clear h60
     have hB64 := hb_call hB42 hb52
     refine pw h61 rfl (op_call (args := #[v, u48]) (R := fun res xw => ∃ (u : Value) (X9 : List EntT), res = .tuple #[u, .bool true] ∧ SlX xw u X9 ∧ X9.map e0 = (tkF (l.map e0) 0 0 l2).2.2 ∧ X9.length ≤ 100 ∧ Below w47.heap.size w47 xw) rfl rfl rfl (by kernel_rfl) (by kernel_rfl) (Try.call50 _ _) (laid18_any v l u48 NS49 (tkF (l.map e0) 0 0 l2).2.2 w47 ((SlX.of hs hok hRI).below hB64) hN50.1 hN50.2 (by omega) (by rw [hq51]; exact rp_tk _ _ _ _)) (by rintro e x ⟨u, X, rfl, h⟩; exact ⟨_, rfl, u, X, rfl, h⟩)) ?_; clear h61
     rintro _ w63 a62 ⟨u65, X66, rfl, hX67, hK68, hx69, hb70⟩ h62
     have hz71 := hb70.size
     have hAl := ha1.2 X66 hK68
     have hgX : l2.length ≤ X66.length := by have := hAl.2.2.l; rwa [len_nrm] at this
     refine pk0 (v := .tuple #[u65, .bool true]) h62 rfl fun a72 h72 => ?_; clear h62
     refine pk0 (v := u65) h72 rfl fun a73 h73 => ?_; clear h72
     refine pk0 (v := .bool true) h73 rfl fun a74 h74 => ?_; clear h73
     refine pk0 (v := u65) h74 rfl fun a75 h75 => ?_; clear h74
     refine pk0 (v := .bool true) h75 rfl fun a76 h76 => ?_; clear h75
     refine pl_nil ?_
     refine co_then ?_
     refine co_seq ?_
     refine co_seq ?_
     refine co_reg ?_
     refine pk0 (v := .bool true) h76 rfl fun a77 h77 => ?_; clear h76
     refine pk0 (v := .bool false) h77 rfl fun a78 h78 => ?_; clear h77
     refine pk0 (v := .bool false) h78 rfl fun a79 h79 => ?_; clear h78
     refine pk0 (v := .int .i64 ((l2.length : Nat) : Int)) h79 rfl fun a80 h80 => ?_; clear h79
     refine pk0 (v := v2) h80 rfl fun a81 h81 => ?_; clear h80
     have hB82 := hb_call hB64 hb70
     refine pk (v := .int .i64 ((l2.length : Nat) : Int)) h81 rfl (rn_len rfl rfl Try.underlying39 (hs2.below hB82)) fun a83 h83 => ?_; clear h81
     refine pk0 (v := .bool (((l2.length : Nat) : Int) != ((l2.length : Nat) : Int))) h83 rfl fun a84 h84 => ?_; clear h83
     refine pk0 (v := .bool (((l2.length : Nat) : Int) != ((l2.length : Nat) : Int))) h84 rfl fun a85 h85 => ?_; clear h84
     refine pl_nil ?_
     refine co_then ?_
     have hc86 : (((l2.length : Nat) : Int) != ((l2.length : Nat) : Int)) = false := by first | (simp; done) | (simp; omega) | exact beq_false_of_ne (by omega) | exact beq_iff_eq.2 (by omega)
     rw [hc86] at h85; clear hc86
     refine co_false h85 rfl ?_
     refine wp_skip ?_
     refine co_then ?_
     refine co_seq ?_
     refine co_reg ?_
     refine pk0 (v := .int .u8 fr) h85 rfl fun a87 h87 => ?_; clear h85
     refine pk (v := .int .i64 fr) h87 rfl (rn_conv rfl rfl Try.underlying5 Try.underlying3 (IntWalk.i64_in _ (by omega))) fun a88 h88 => ?_; clear h87
     refine pk0 (v := v2) h88 rfl fun a89 h89 => ?_; clear h88
     refine pk (v := .int .i64 ((l2.length : Nat) : Int)) h89 rfl (rn_len rfl rfl Try.underlying39 (hs2.below hB82)) fun a90 h90 => ?_; clear h89
     refine pk (v := .int .i64 ((l2.length + 1 : Nat) : Int)) h90 rfl (rn_arith' rfl rfl rfl rfl rfl rfl (IntWalk.i64_in _ (by omega)) (by omega)) fun a91 h91 => ?_; clear h90
     obtain ⟨rm92, hrm93, hrk⟩ : ∃ z : Nat, fr.tmod ((l2.length + 1 : Nat) : Int) = (z : Int) ∧ z ≤ l2.length := ⟨(fr.tmod ((l2.length + 1 : Nat) : Int)).toNat, by have := rem_in (i := fr) (j := ((l2.length + 1 : Nat) : Int)) (by omega) (by omega); omega⟩
     refine pk (v := .int .i64 ((rm92 : Nat) : Int)) h91 rfl (rn_remA rfl rfl rfl (by omega) rfl hrm93) fun a94 h94 => ?_; clear h91
     refine pk0 (v := .int .i64 ((rm92 : Nat) : Int)) h94 rfl fun a95 h95 => ?_; clear h94
     refine pl_nil ?_
     refine co_then ?_
     refine co_seq ?_
     refine co_reg ?_
     refine pk0 (v := u65) h95 rfl fun a96 h96 => ?_; clear h95
     refine pk0 (v := v2) h96 rfl fun a97 h97 => ?_; clear h96
     have ha2 := ag2 hAl
     refine pw h97 rfl (op_call (args := #[u65, .int .i64 0, .int .i64 0, v2]) (R := fun res xw => ∃ (u : Value) (NS : List NtT), res = .tuple #[u, .int .i64 ((l2.length : Nat) : Int)] ∧ NtX xw u NS ∧ NS.map ntP = (tkF (X66.map e0) 0 0 l2).1 ∧ Below w63.heap.size w63 xw) rfl rfl rfl (by kernel_rfl) (by kernel_rfl) (Try.call43 _ _) (takeX 0 0 w63 hX67 ((SlX.of hs2 hok2 hRO).below hB82) hAl.1 (by omega) (by omega) (by omega)) (by rintro e x ⟨u, NS, h0, h⟩; rw [ha2] at h0; exact ⟨_, h0, u, NS, rfl, h⟩)) ?_; clear h97
     rintro _ w99 a98 ⟨u100, NS101, rfl, hN102, hq103, hb104⟩ h98
     have hz105 := hb104.size
     have hl106 := sl_len hN102.1
     have hnl107 : NS101.length = 0 := nil_of (q := 0) (M := []) (by rw [hq103, ha2])
     refine pk0 (v := .tuple #[u100, .int .i64 ((l2.length : Nat) : Int)]) h98 rfl fun a108 h108 => ?_; clear h98
     refine pk0 (v := u100) h108 rfl fun a109 h109 => ?_; clear h108
     refine pk0 (v := .int .i64 ((l2.length : Nat) : Int)) h109 rfl fun a110 h110 => ?_; clear h109
     refine pk0 (v := u100) h110 rfl fun a111 h111 => ?_; clear h110
     refine pk0 (v := .int .i64 ((l2.length : Nat) : Int)) h111 rfl fun a112 h112 => ?_; clear h111
     refine pl_nil ?_
     refine co_then ?_
     refine co_seq ?_
     refine co_reg ?_
     refine pk0 (v := u65) h112 rfl fun a113 h113 => ?_; clear h112
     refine pk0 (v := .int .i64 ((l2.length : Nat) : Int)) h113 rfl fun a114 h114 => ?_; clear h113
     refine pk0 (v := .int .i64 ((rm92 : Nat) : Int)) h114 rfl fun a115 h115 => ?_; clear h114
     refine pk0 (v := v2) h115 rfl fun a116 h116 => ?_; clear h115
     refine pk0 (v := .int .i64 ((rm92 : Nat) : Int)) h116 rfl fun a117 h117 => ?_; clear h116
     have hB118 := hb_call hB82 hb104
     refine pk (v := subV v2 rm92 l2.length 4) h117 rfl (rn_sliceFrom rfl rfl rfl Try.underlying39 Try.sizeOf47 (hs2.below hB118) (by omega) (by omega)) fun a119 h119 => ?_; clear h117
     have hX122 := hN50.below hb70
     have hX123 := hX122.below hb104
     have hX124 := hX67.below hb104
     have ha3 := ag3 (X := X66) (l2 := l2) (k := rm92) hrk
     refine pw h119 rfl (op_call (args := #[u65, .int .i64 ((l2.length : Nat) : Int), .int .i64 ((rm92 : Nat) : Int), subV v2 rm92 l2.length 4]) (R := fun res xw => ∃ (u : Value) (NS : List NtT), res = .tuple #[u, .int .i64 ((l2.length : Nat) : Int)] ∧ NtX xw u NS ∧ NS.map ntP = (tkF (X66.map e0) l2.length rm92 (l2.drop rm92)).1 ∧ Below w99.heap.size w99 xw) rfl rfl rfl (by kernel_rfl) (by kernel_rfl) (Try.call43 _ _) (takeX l2.length rm92 w99 hX124 (SlX.sub ((SlX.of hs2 hok2 hRO).below hB118) (sl_drop (hs2.below hB118) _ (by omega)) (fun z hz => by first | exact List.mem_of_mem_take (List.mem_of_mem_drop hz) | exact List.mem_of_mem_drop hz | exact List.mem_of_mem_take hz)) hAl.1 (by omega) (by first | (rw [List.length_drop, List.length_take]; omega) | (rw [List.length_drop]; omega)) (by omega)) (by rintro e x ⟨u, NS, h0, h⟩; rw [ha3] at h0; exact ⟨_, h0, u, NS, rfl, h⟩)) ?_; clear h119
     rintro _ w121 a120 ⟨u125, NS126, rfl, hN127, hq128, hb129⟩ h120
     have hz130 := hb129.size
     have hl131 := sl_len hN127.1
     have hnl132 : NS126.length = 0 := nil_of (q := 0) (M := []) (by rw [hq128, ha3])
     refine pk0 (v := .tuple #[u125, .int .i64 ((l2.length : Nat) : Int)]) h120 rfl fun a133 h133 => ?_; clear h120
     refine pk0 (v := u125) h133 rfl fun a134 h134 => ?_; clear h133
     refine pk0 (v := .int .i64 ((l2.length : Nat) : Int)) h134 rfl fun a135 h135 => ?_; clear h134
     refine pk0 (v := u125) h135 rfl fun a136 h136 => ?_; clear h135
     refine pk0 (v := .int .i64 ((l2.length : Nat) : Int)) h136 rfl fun a137 h137 => ?_; clear h136
     refine pl_nil ?_
     refine co_then ?_
     refine co_seq ?_
     refine co_reg ?_
     refine pk0 (v := v) h137 rfl fun a138 h138 => ?_; clear h137
     refine pk0 (v := v) h138 rfl fun a139 h139 => ?_; clear h138
     have hB142 := hb_call hB118 hb129
     have ha4 := ag4 l
     refine pw h139 rfl (op_call (args := #[v, .int .i64 0, .int .i64 0, v]) (R := fun res xw => ∃ (u : Value) (NS : List NtT), res = .tuple #[u, .int .i64 ((l.length : Nat) : Int)] ∧ NtX xw u NS ∧ NS.map ntP = (tkF (l.map e0) 0 0 l).1 ∧ Below w121.heap.size w121 xw) rfl rfl rfl (by kernel_rfl) (by kernel_rfl) (Try.call43 _ _) (takeX 0 0 w121 ((SlX.of hs hok hRI).below hB142) ((SlX.of hs hok hRI).below hB142) hRI (by omega) (by omega) (by omega)) (by rintro e x ⟨u, NS, h0, h⟩; rw [ha4] at h0; exact ⟨_, h0, u, NS, rfl, h⟩)) ?_; clear h139
     rintro _ w141 a140 ⟨u143, NS144, rfl, hN145, hq146, hb147⟩ h140
     have hz148 := hb147.size
     have hl149 := sl_len hN145.1
     have hnl150 : NS144.length = 0 := nil_of (q := 0) (M := []) (by rw [hq146, ha4])
     refine pk0 (v := .tuple #[u143, .int .i64 ((l.length : Nat) : Int)]) h140 rfl fun a151 h151 => ?_; clear h140
     refine pk0 (v := u143) h151 rfl fun a152 h152 => ?_; clear h151
     refine pk0 (v := .int .i64 ((l.length : Nat) : Int)) h152 rfl fun a153 h153 => ?_; clear h152
     refine pk0 (v := u143) h153 rfl fun a154 h154 => ?_; clear h153
     refine pk0 (v := .int .i64 ((l.length : Nat) : Int)) h154 rfl fun a155 h155 => ?_; clear h154
     refine pl_nil ?_
     refine co_then ?_
     refine co_seq ?_
     refine co_reg ?_
     refine pk0 (v := u100) h155 rfl fun a156 h156 => ?_; clear h155
     have hX157 := hN102.below hb129
     have hX158 := hX157.below hb147
     refine pk (v := .int .i64 ((NS101.length : Nat) : Int)) h156 rfl (rn_len rfl rfl Try.underlying72 (hX158.1)) fun a159 h159 => ?_; clear h156
     refine pk0 (v := .bool (((NS101.length : Nat) : Int) == 0)) h159 rfl fun a160 h160 => ?_; clear h159
     refine pk0 (v := .bool (((NS101.length : Nat) : Int) == 0)) h160 rfl fun a161 h161 => ?_; clear h160
     have hc162 : (((NS101.length : Nat) : Int) == 0) = true := by first | (simp; done) | (simp; omega) | exact beq_false_of_ne (by omega) | exact beq_iff_eq.2 (by omega)
     rw [hc162] at h161; clear hc162
     refine pk0 (v := .int .i64 ((l2.length : Nat) : Int)) h161 rfl fun a163 h163 => ?_; clear h161
     refine pk0 (v := .int .i64 ((l2.length : Nat) : Int)) h163 rfl fun a164 h164 => ?_; clear h163
     refine pk0 (v := .bool (((l2.length : Nat) : Int) == ((l2.length : Nat) : Int))) h164 rfl fun a165 h165 => ?_; clear h164
     refine pk0 (v := .bool (((l2.length : Nat) : Int) == ((l2.length : Nat) : Int))) h165 rfl fun a166 h166 => ?_; clear h165
     refine pk0 (v := .bool (((l2.length : Nat) : Int) == ((l2.length : Nat) : Int))) h166 rfl fun a167 h167 => ?_; clear h166
     have hc168 : (((l2.length : Nat) : Int) == ((l2.length : Nat) : Int)) = true := by first | (simp; done) | (simp; omega) | exact beq_false_of_ne (by omega) | exact beq_iff_eq.2 (by omega)
     rw [hc168] at h167; clear hc168
     refine pk0 (v := u125) h167 rfl fun a169 h169 => ?_; clear h167
     have hX170 := hN127.below hb147
     refine pk (v := .int .i64 ((NS126.length : Nat) : Int)) h169 rfl (rn_len rfl rfl Try.underlying72 (hX170.1)) fun a171 h171 => ?_; clear h169
     refine pk0 (v := .bool (((NS126.length : Nat) : Int) == 0)) h171 rfl fun a172 h172 => ?_; clear h171
     refine pk0 (v := .bool (((NS126.length : Nat) : Int) == 0)) h172 rfl fun a173 h173 => ?_; clear h172
     refine pk0 (v := .bool (((NS126.length : Nat) : Int) == 0)) h173 rfl fun a174 h174 => ?_; clear h173
     have hc175 : (((NS126.length : Nat) : Int) == 0) = true := by first | (simp; done) | (simp; omega) | exact beq_false_of_ne (by omega) | exact beq_iff_eq.2 (by omega)
     rw [hc175] at h174; clear hc175
     refine pk0 (v := .int .i64 ((l2.length : Nat) : Int)) h174 rfl fun a176 h176 => ?_; clear h174
     refine pk0 (v := .int .i64 ((l2.length : Nat) : Int)) h176 rfl fun a177 h177 => ?_; clear h176
     refine pk0 (v := .bool (((l2.length : Nat) : Int) == ((l2.length : Nat) : Int))) h177 rfl fun a178 h178 => ?_; clear h177
     refine pk0 (v := .bool (((l2.length : Nat) : Int) == ((l2.length : Nat) : Int))) h178 rfl fun a179 h179 => ?_; clear h178
     refine pk0 (v := .bool (((l2.length : Nat) : Int) == ((l2.length : Nat) : Int))) h179 rfl fun a180 h180 => ?_; clear h179
     have hc181 : (((l2.length : Nat) : Int) == ((l2.length : Nat) : Int)) = true := by first | (simp; done) | (simp; omega) | exact beq_false_of_ne (by omega) | exact beq_iff_eq.2 (by omega)
     rw [hc181] at h180; clear hc181
     refine pk0 (v := u143) h180 rfl fun a182 h182 => ?_; clear h180
     refine pk (v := .int .i64 ((NS144.length : Nat) : Int)) h182 rfl (rn_len rfl rfl Try.underlying72 (hN145.1)) fun a183 h183 => ?_; clear h182
     refine pk0 (v := .bool (((NS144.length : Nat) : Int) == 0)) h183 rfl fun a184 h184 => ?_; clear h183
     refine pk0 (v := .bool (((NS144.length : Nat) : Int) == 0)) h184 rfl fun a185 h185 => ?_; clear h184
     refine pk0 (v := .bool (((NS144.length : Nat) : Int) == 0)) h185 rfl fun a186 h186 => ?_; clear h185
     have hc187 : (((NS144.length : Nat) : Int) == 0) = true := by first | (simp; done) | (simp; omega) | exact beq_false_of_ne (by omega) | exact beq_iff_eq.2 (by omega)
     rw [hc187] at h186; clear hc187
     refine pk0 (v := .int .i64 ((l.length : Nat) : Int)) h186 rfl fun a188 h188 => ?_; clear h186
     refine pk0 (v := v) h188 rfl fun a189 h189 => ?_; clear h188
     have hB190 := hb_call hB142 hb147
     refine pk (v := .int .i64 ((l.length : Nat) : Int)) h189 rfl (rn_len rfl rfl Try.underlying39 (hs.below hB190)) fun a191 h191 => ?_; clear h189
     refine pk0 (v := .bool (((l.length : Nat) : Int) == ((l.length : Nat) : Int))) h191 rfl fun a192 h192 => ?_; clear h191
     refine pk0 (v := .bool (((l.length : Nat) : Int) == ((l.length : Nat) : Int))) h192 rfl fun a193 h193 => ?_; clear h192
     refine pk0 (v := .bool (((l.length : Nat) : Int) == ((l.length : Nat) : Int))) h193 rfl fun a194 h194 => ?_; clear h193
     have hc195 : (((l.length : Nat) : Int) == ((l.length : Nat) : Int)) = true := by first | (simp; done) | (simp; omega) | exact beq_false_of_ne (by omega) | exact beq_iff_eq.2 (by omega)
     rw [hc195] at h194; clear hc195
     have hX198 := hX123.below hb129
     have hX199 := hX198.below hb147
     have hX200 := hX124.below hb129
     have hX201 := hX200.below hb147
     refine pw h194 rfl (op_call (args := #[]) (R := fun res xw => res = .bool true ∧ Below w141.heap.size w141 xw) rfl rfl rfl (by kernel_rfl) (by kernel_rfl) (Try.call42 _ _) (awake18 w141) (by rintro e x ⟨rfl, h⟩; exact ⟨_, rfl, rfl, h⟩)) ?_; clear h194
     rintro _ w197 a196 ⟨rfl, hb202⟩ h196
     have hz203 := hb202.size
     refine pk0 (v := .bool true) h196 rfl fun a204 h204 => ?_; clear h196
     refine pk0 (v := .bool true) h204 rfl fun a205 h205 => ?_; clear h204
     refine pl_nil ?_
     refine co_then ?_
     refine wp_ret ?_
     refine co_ret1 h205 rfl rfl ?_
     have hB206 := hb_call hB190 hb202
     exact ⟨rfl, hB206⟩
    ·
     rw [hc41] at h40
     have hp207 : rightI l2 ≠ 0 := by first | simpa using hc41 | simpa [and_assoc] using hc41
     clear hc41
     refine co_true h40 rfl ?_
     refine co_seq ?_
     refine co_reg ?_
     refine pw h40 rfl (op_call (args := #[]) (R := fun res xw => res = .bool true ∧ Below w36.heap.size w36 xw) rfl rfl rfl (by kernel_rfl) (by kernel_rfl) (Try.call42 _ _) (awake18 w36) (by rintro e x ⟨rfl, h⟩; exact ⟨_, rfl, rfl, h⟩)) ?_; clear h40
     rintro _ w209 a208 ⟨rfl, hb210⟩ h208
     have hz211 := hb210.size
     refine pk0 (v := .bool true) h208 rfl fun a212 h212 => ?_; clear h208
     refine pl_nil ?_
     refine co_then ?_
     refine wp_ret ?_
     refine co_thenR ?_
     refine co_ret1 h212 rfl rfl ?_
     have hB213 := hb_call hB42 hb210
     exact ⟨rfl, hB213⟩
   ·
    rw [hc31] at h30
    have hp214 : rightI l ≠ 0 := by first | simpa using hc31 | simpa [and_assoc] using hc31
    clear hc31
    refine psk h30 rfl fun a215 h215 => ?_; clear h30
    refine psk h215 rfl fun a216 h216 => ?_; clear h215
    refine psk h216 rfl fun a217 h217 => ?_; clear h216
    refine pk0 (v := .bool true) h217 rfl fun a218 h218 => ?_; clear h217
    refine pl_nil ?_
    refine co_then ?_
    refine co_true h218 rfl ?_
    refine co_seq ?_
    refine co_reg ?_
    refine pw h218 rfl (op_call (args := #[]) (R := fun res xw => res = .bool true ∧ Below w25.heap.size w25 xw) rfl rfl rfl (by kernel_rfl) (by kernel_rfl) (Try.call42 _ _) (awake18 w25) (by rintro e x ⟨rfl, h⟩; exact ⟨_, rfl, rfl, h⟩)) ?_; clear h218
    rintro _ w220 a219 ⟨rfl, hb221⟩ h219
    have hz222 := hb221.size
    refine pk0 (v := .bool true) h219 rfl fun a223 h223 => ?_; clear h219
    refine pl_nil ?_
    refine co_then ?_
    refine wp_ret ?_
    refine co_thenR ?_
    refine co_ret1 h223 rfl rfl ?_
    have hB224 := hb_call hB32 hb221
    exact ⟨rfl, hB224⟩
  ·
   rw [hc20] at h19
   have hp225 : muchN l2 > 60 := of_decide_eq_true hc20
   clear hc20
   refine psk h19 rfl fun a226 h226 => ?_; clear h19
   refine psk h226 rfl fun a227 h227 => ?_; clear h226
   refine psk h227 rfl fun a228 h228 => ?_; clear h227
   refine pk0 (v := .bool true) h228 rfl fun a229 h229 => ?_; clear h228
   refine pk0 (v := .bool true) h229 rfl fun a230 h230 => ?_; clear h229
   refine psk h230 rfl fun a231 h231 => ?_; clear h230
   refine psk h231 rfl fun a232 h232 => ?_; clear h231
   refine psk h232 rfl fun a233 h233 => ?_; clear h232
   refine pk0 (v := .bool true) h233 rfl fun a234 h234 => ?_; clear h233
   refine pl_nil ?_
   refine co_then ?_
   refine co_true h234 rfl ?_
   refine co_seq ?_
   refine co_reg ?_
   refine pw h234 rfl (op_call (args := #[]) (R := fun res xw => res = .bool true ∧ Below w14.heap.size w14 xw) rfl rfl rfl (by kernel_rfl) (by kernel_rfl) (Try.call42 _ _) (awake18 w14) (by rintro e x ⟨rfl, h⟩; exact ⟨_, rfl, rfl, h⟩)) ?_; clear h234
   rintro _ w236 a235 ⟨rfl, hb237⟩ h235
   have hz238 := hb237.size
   refine pk0 (v := .bool true) h235 rfl fun a239 h239 => ?_; clear h235
   refine pl_nil ?_
   refine co_then ?_
   refine wp_ret ?_
   refine co_thenR ?_
   refine co_ret1 h239 rfl rfl ?_
   have hB240 := hb_call hB21 hb237
   exact ⟨rfl, hB240⟩
 ·
  rw [hc9] at h8
  have hp241 : muchN l > 60 := of_decide_eq_true hc9
  clear hc9
  refine psk h8 rfl fun a242 h242 => ?_; clear h8
  refine psk h242 rfl fun a243 h243 => ?_; clear h242
  refine psk h243 rfl fun a244 h244 => ?_; clear h243
  refine pk0 (v := .bool true) h244 rfl fun a245 h245 => ?_; clear h244
  refine pk0 (v := .bool true) h245 rfl fun a246 h246 => ?_; clear h245
  refine psk h246 rfl fun a247 h247 => ?_; clear h246
  refine psk h247 rfl fun a248 h248 => ?_; clear h247
  refine psk h248 rfl fun a249 h249 => ?_; clear h248
  refine pk0 (v := .bool true) h249 rfl fun a250 h250 => ?_; clear h249
  refine pk0 (v := .bool true) h250 rfl fun a251 h251 => ?_; clear h250
  refine psk h251 rfl fun a252 h252 => ?_; clear h251
  refine psk h252 rfl fun a253 h253 => ?_; clear h252
  refine psk h253 rfl fun a254 h254 => ?_; clear h253
  refine pk0 (v := .bool true) h254 rfl fun a255 h255 => ?_; clear h254
  refine pl_nil ?_
  refine co_then ?_
  refine co_true h255 rfl ?_
  refine co_seq ?_
  refine co_reg ?_
  refine pw h255 rfl (op_call (args := #[]) (R := fun res xw => res = .bool true ∧ Below w4.heap.size w4 xw) rfl rfl rfl (by kernel_rfl) (by kernel_rfl) (Try.call42 _ _) (awake18 w4) (by rintro e x ⟨rfl, h⟩; exact ⟨_, rfl, rfl, h⟩)) ?_; clear h255
  rintro _ w257 a256 ⟨rfl, hb258⟩ h256
  have hz259 := hb258.size
  refine pk0 (v := .bool true) h256 rfl fun a260 h260 => ?_; clear h256
  refine pl_nil ?_
  refine co_then ?_
  refine wp_ret ?_
  refine co_thenR ?_
  refine co_ret1 h260 rfl rfl ?_
  have hB261 := hb_call hB10 hb258
  exact ⟨rfl, hB261⟩
end Go.Proofs.Ythmnndbpadegnaa
