/- Put together: MvCRt, MvFRt, RstCRt, RstDRt, RstERt, RstFRt, ConfJzRt, NoJRt, RstGRt. Conditions: as each says. -/
import Derived.Test.YtkjnhghniopnoaaRu5
import Derived.Test.YtkjnhghniopnoaaRu1
import Derived.Test.YtkjnhghniopnoaaRu3
import Derived.Scope
import Derived.Test.YtkjnhghniopnoaaRu4
/- Package mvcc: zero, Get, Put. Conditions: at most 70000 keys, 800 versions each, 20 operations. -/
namespace Go.Proofs.Ytkjnhghniopnoaa
open Go.RowKit Go.PlainAid
set_option linter.unusedVariables false
set_option linter.unusedSimpArgs false

set_option maxRecDepth 100000 in
theorem mzero_any (b : Nat) (p : Value) (u : Value) (c : Value) (w : World) (hB : Blk w b 92 #[.bool true, p, u, c]) :
    Calls Try.prog 47 #[pt b 0] w fun e w' => e = .returned (.bool false) ∧ w = w' := by
 have hB0 := Below.refl w.heap.size w
 have hl_hB := hB.lt
 refine co_enter (n := 12) Try.func47 rfl rfl rfl [(0, pt b 0)] rfl (fun a h0 => ?_)
 refine co_seq ?_
 refine co_reg ?_
 refine pk0 (v := .bool false) h0 rfl fun a1 h1 => ?_; clear h0
 refine pl_nil ?_
 refine co_then ?_
 refine co_seq ?_
 refine co_reg ?_
 refine pk0 (v := pt b 0) h1 rfl fun a2 h2 => ?_; clear h1
 refine pk0 (v := .bool false) h2 rfl fun a3 h3 => ?_; clear h2
 refine pk0 (v := .bool false) h3 rfl fun a4 h4 => ?_; clear h3
 refine pk0 (v := pt b 0) h4 rfl fun a5 h5 => ?_; clear h4
 refine pk0 (v := pt b 0) h5 rfl fun a6 h6 => ?_; clear h5
 refine pk0 (v := pt b 0) h6 rfl fun a7 h7 => ?_; clear h6
 refine pk (v := .bool true) h7 rfl (rn_load1 rfl rfl Try.isAgg4 (hB.cell rfl)) fun a8 h8 => ?_; clear h7
 refine pk0 (v := .bool false) h8 rfl fun a9 h9 => ?_; clear h8
 refine pk0 (v := .bool false) h9 rfl fun a10 h10 => ?_; clear h9
 refine pk0 (v := .bool false) h10 rfl fun a11 h11 => ?_; clear h10
 refine pl_nil ?_
 refine co_then ?_
 refine wp_ret ?_
 refine co_ret1 h11 rfl rfl ?_
 exact ⟨rfl, rfl⟩

theorem cellE_len (c : CellT) : (cellE c).length = 3 := rfl
section
variable {S : Nat → Prop} {w x : World}
theorem sl_butNM {α : Type} {enc : α → List Value} {sz : Nat} {v : Value} {l : List α} (h : SliceOf enc sz w v l) (hb : But S w x) (hv : l ≠ [] → ∀ k, v.ownBlock = some k → ¬ S k) : SliceOf enc sz x v l := by
  obtain ⟨ao, cap, rfl, h1, h2, h3, h4⟩ := h
  refine ⟨ao, cap, rfl, h1, h2, h3, fun j hj => ?_⟩
  obtain ⟨b, off, e, hr⟩ := h4 j hj
  subst e
  refine ⟨b, off, rfl, fun i u hu => ?_⟩
  have hc := hr i u hu
  have hlt := World.block_lt_of_cell? w _ hc
  exact (World.cell?_of_block (w := w) (hb.block b hlt (hv (fun q => by subst q; simp at hj) b rfl))).trans hc
end
theorem chkL_up : ∀ (p : Option ByteArray) (l : List OpT), chkL p l = 0 → (∀ q, p = some q → ∀ z ∈ l, klt q z.1 = true) ∧ l.Pairwise (fun a b => klt a.1 b.1 = true)
  | _, [], _ => ⟨fun _ _ z hz => by simp at hz, List.Pairwise.nil⟩
  | p, o :: r, h => by
    unfold chkL at h
    split at h
    · rename_i h0; exact absurd h h0
    · split at h
      · rename_i hu
        obtain ⟨h1, h2⟩ := chkL_up (some o.1) r h
        refine ⟨fun q e z hz => ?_, List.pairwise_cons.2 ⟨fun z hz => h1 o.1 rfl z hz, h2⟩⟩
        subst e
        rcases List.mem_cons.1 hz with rfl | hz
        · exact hu
        · exact klt_tr (show klt q o.1 = true from hu) (h1 o.1 rfl z hz)
      · cases h
theorem chkB_up {l : List OpT} {c r : Int} (h : chkB c r l = 0) : l.Pairwise (fun a b => klt a.1 b.1 = true) := (chkL_up none l (chkB_ok h).2.2.2).2
/-- What Put answers, and what it comes to. -/
def mvE (la ts : Int) (l : List OpT) : Int := if ts = 0 then 5 else if ts ≤ la then 18 else chkB 0 1 l
noncomputable def mvF (f : Fv) (la ts : Int) (l : List OpT) : Fv := if mvE la ts l = 0 then putsF f ts l else f
def mvLa (la ts : Int) (l : List OpT) : Int := if mvE la ts l = 0 then ts else la
def mvCe (la ts ce : Int) (l : List OpT) : Int := if mvE la ts l = 0 then ce + l.length else ce
section
variable {la ts ce : Int} {l : List OpT} {f : Fv} {n k : Nat} {y : OpT}
theorem mvE_a (h : ts = 0) : mvE la ts l = 5 := if_pos h
theorem mvE_b (h : ¬ ts = 0) (h2 : ts ≤ la) : mvE la ts l = 18 := by unfold mvE; rw [if_neg h, if_pos h2]
theorem mvE_c (h : ¬ ts = 0) (h2 : ¬ ts ≤ la) : mvE la ts l = chkB 0 1 l := by unfold mvE; rw [if_neg h, if_neg h2]
theorem mv_now (hF : FOk f la n) (hup : l.Pairwise (fun a b => klt a.1 b.1 = true)) (hy : l[k]? = some y) (hlt : la < ts) (hn : n ≤ 800) : (putsF f ts (l.take k) y.1).length ≤ 900 ∧ lastTs 0 (putsF f ts (l.take k) y.1) < ts := by
  obtain ⟨hk, e⟩ := List.getElem?_eq_some_iff.1 hy
  have e2 : putsF f ts (l.take k) y.1 = f y.1 := putsF_off fun o ho => by
    obtain ⟨j, hj, e3⟩ := List.mem_iff_getElem.1 ho
    rw [List.length_take] at hj
    rw [List.getElem_take] at e3
    rw [← e3, ← e]
    exact klt_ne (List.pairwise_iff_getElem.1 hup j k (by omega) hk (by omega))
  rw [e2]
  have h1 := hF.len y.1; have h2 := hF.le y.1
  exact ⟨by omega, by omega⟩
theorem mv_take (hy : l[k]? = some y) : putsF f ts (l.take (k + 1)) = upd (putsF f ts (l.take k)) y.1 (putsF f ts (l.take k) y.1 ++ [(ts, y.2.1, y.2.2)]) := by rw [takeO_at hy, putsF_snoc]
end
set_option maxRecDepth 100000
theorem mget_blk (b tb : Nat) (u c : Value) (S : Nat → Prop) (K : List ByteArray) (f : Fv) (k : ByteArray) (t la : Int) (n : Nat) (w : World) (hB : Blk w b 92 #[.bool true, pt tb 0, u, c]) (hV : VkO S w tb K f) (hF : FOk f la n) :
    Calls Try.prog 28 #[pt b 0, .string k, .int .u64 t] w fun e w' => e = .returned (.tuple #[.string (atS (f k) t).1, .bool (atS (f k) t).2]) ∧ Below w.heap.size w w' := by
  have c1 : w.cell? ⟨b, 1, none⟩ = some (pt tb 0) := hB.cell (k := 1) rfl
  have HB := Lib.hid hB; have HV := Lib.hid hV; have HF := Lib.hid hF; clear hB hV hF
  go_enter Try.func28, Try.ntmps28
  go_wp2_with fail
  refine (mzero_any b _ _ _ w HB.out).mono ?_
  rintro e w1 ⟨rfl, rfl⟩
  go_wp2_with fail
  refine (vget_any S _ tb K f k HV.out).mono ?_
  rintro e w2 ⟨v, bb, rfl, hr, -, rfl⟩
  have HS := Lib.hid (cellRow.sl hr); clear hr
  unfold slV at HS ⊢
  go_wp2_with fail
  refine (at_any _ _ t _ HS.out (HF.out.ok k)).mono ?_
  rintro e w3 ⟨rfl, hb⟩
  have HBB := Lib.hid hb; clear hb
  go_wp2
  go_ret2
  exact ⟨rfl, HBB.out⟩

set_option maxRecDepth 100000 in
set_option maxHeartbeats 3200000 in
theorem mput_blk (S : Nat → Prop) (b : Nat) (tb : Nat) (K : List ByteArray) (f : Fv) (la : Int) (ce : Int) (n : Nat) (ts : Int) (v : Value) (l : List OpT) (w : World) (hB : Blk w b 92 #[.bool true, pt tb 0, .int .u64 la, .int .i64 ce]) (hV : VkO S w tb K f) (hSb : ¬ S b) (hF : FOk f la n) (hn : n ≤ 800) (hla : 0 ≤ la ∧ la < 18446744073709551616) (hce : -100000000000 ≤ ce ∧ ce ≤ 100000000000) (hs : SliceOf opE 3 w v l) (hvS : l ≠ [] → ∀ k, v.ownBlock = some k → ¬ (k = b ∨ S k)) (hts : 0 ≤ ts ∧ ts < 18446744073709551616) (hK : K.length ≤ 70000) (hl : l.length ≤ 20) :
    Calls Try.prog 43 #[pt b 0, .int .u64 ts, v] w fun e w' => ∃ (S' : Nat → Prop) (K' : List ByteArray), e = .returned (.int .i64 (mvE la ts l)) ∧ Blk w' b 92 #[.bool true, pt tb 0, .int .u64 (mvLa la ts l), .int .i64 (mvCe la ts ce l)] ∧ VkO S' w' tb K' (mvF f la ts l) ∧ (∀ q, S' q → (q = b ∨ S q) ∨ w.heap.size ≤ q) ∧ ¬ S' b ∧ K'.length ≤ K.length + l.length ∧ But (fun q => q = b ∨ S q) w w' := by
 have hB0 := But.refl (fun q => q = b ∨ S q) w
 have hl_hB := hB.lt
 have hl_hs := sl_len hs
 have hinS : ∀ k, S k → (k = b ∨ S k) ∨ w.heap.size ≤ k := fun k hk => .inl (.inr hk)
 have hinb : (b = b ∨ S b) ∨ w.heap.size ≤ b := .inl (.inl rfl)
 refine co_enter (n := 77) Try.func43 rfl rfl rfl [(0, pt b 0), (1, .int .u64 ts), (2, v)] rfl (fun a h0 => ?_)
 refine co_seq ?_
 refine co_reg ?_
 refine pk0 (v := .int .i64 0) h0 rfl fun a1 h1 => ?_; clear h0
 refine pl_nil ?_
 refine co_then ?_
 refine co_seq ?_
 refine co_seq ?_
 refine co_reg ?_
 refine pk0 (v := pt b 0) h1 rfl fun a2 h2 => ?_; clear h1
 refine pw h2 rfl (op_call (args := #[pt b 0]) (R := fun res xw => res = .bool false ∧ w = xw) rfl rfl rfl (by kernel_rfl) (by kernel_rfl) (Try.call47 _ _) (mzero_any b (pt tb 0) (.int .u64 la) (.int .i64 ce) w hB) (by rintro e x ⟨rfl, rfl⟩; exact ⟨_, rfl, rfl, rfl⟩)) ?_; clear h2
 rintro _ _ a3 ⟨rfl, rfl⟩ h3
 refine pl_nil ?_
 refine co_then ?_
 refine co_false h3 rfl ?_
 refine wp_skip ?_
 refine co_then ?_
 refine co_seq ?_
 refine co_seq ?_
 refine co_reg ?_
 refine pk0 (v := .int .u64 ts) h3 rfl fun a5 h5 => ?_; clear h3
 refine pk0 (v := .bool (ts == 0)) h5 rfl fun a6 h6 => ?_; clear h5
 refine pl_nil ?_
 refine co_then ?_
 cases hc7 : (ts == 0)
 ·
  rw [hc7] at h6
  have hp8 : ¬ (ts = 0) := by first | simpa using hc7 | simpa [and_assoc] using hc7
  clear hc7
  refine co_false h6 rfl ?_
  refine wp_skip ?_
  refine co_then ?_
  refine co_seq ?_
  refine co_seq ?_
  refine co_reg ?_
  refine pk0 (v := .int .u64 ts) h6 rfl fun a9 h9 => ?_; clear h6
  refine pk0 (v := pt b 0) h9 rfl fun a10 h10 => ?_; clear h9
  refine pk0 (v := pt b 0) h10 rfl fun a11 h11 => ?_; clear h10
  refine pk0 (v := pt b 2) h11 rfl fun a12 h12 => ?_; clear h11
  refine pk (v := .int .u64 la) h12 rfl (rn_load1 rfl rfl Try.isAgg27 (hB.cell rfl)) fun a13 h13 => ?_; clear h12
  refine pk0 (v := .bool (decide (ts ≤ la))) h13 rfl fun a14 h14 => ?_; clear h13
  refine pl_nil ?_
  refine co_then ?_
  cases hc15 : (decide (ts ≤ la))
  ·
   rw [hc15] at h14
   have hp16 : ¬ (ts ≤ la) := of_decide_eq_false hc15
   clear hc15
   refine co_false h14 rfl ?_
   refine wp_skip ?_
   refine co_then ?_
   refine co_seq ?_
   refine co_seq ?_
   refine co_reg ?_
   refine pk0 (v := v) h14 rfl fun a17 h17 => ?_; clear h14
   refine pk (v := .agg #[.int .i64 0, .int .i64 1, v]) h17 rfl (by obtain ⟨_, _, _, hq⟩ := sl_form (sl_butNM hs hB0 hvS); subst hq; kernel_rfl) fun a18 h18 => ?_; clear h17
   refine pw h18 rfl (op_call (args := #[.agg #[.int .i64 0, .int .i64 1, v]]) (R := fun res xw => res = .int .i64 (chkB 0 1 l) ∧ Below w.heap.size w xw) rfl rfl rfl (by kernel_rfl) (by kernel_rfl) (Try.call70 _ _) (opsCheck_any 0 1 v l w (sl_butNM hs hB0 hvS)) (by rintro e x ⟨rfl, h⟩; exact ⟨_, rfl, rfl, h⟩)) ?_; clear h18
   rintro _ w20 a19 ⟨rfl, hb21⟩ h19
   have hz22 := hb21.size
   have ho23 := VkO.ofS hV
   refine pk0 (v := .int .i64 (chkB 0 1 l)) h19 rfl fun a24 h24 => ?_; clear h19
   refine pl_nil ?_
   refine co_then ?_
   refine co_seq ?_
   refine co_reg ?_
   refine pk0 (v := .int .i64 (chkB 0 1 l)) h24 rfl fun a25 h25 => ?_; clear h24
   refine pk0 (v := .bool ((chkB 0 1 l) != 0)) h25 rfl fun a26 h26 => ?_; clear h25
   refine pl_nil ?_
   refine co_then ?_
   have hB28 := fbU_call hB0 hb21
   cases hc27 : ((chkB 0 1 l) != 0)
   ·
    rw [hc27] at h26
    have hp29 : ¬ ((chkB 0 1 l) ≠ 0) := by first | simpa using hc27 | simpa [and_assoc] using hc27
    clear hc27
    refine co_false h26 rfl ?_
    refine wp_skip ?_
    refine co_then ?_
    refine co_seq ?_
    refine co_seq ?_
    refine co_reg ?_
    refine pk0 (v := v) h26 rfl fun a30 h30 => ?_; clear h26
    refine pk (v := .int .i64 ((l.length : Nat) : Int)) h30 rfl (rn_len rfl rfl Try.underlying36 (sl_butNM hs hB28 hvS)) fun a31 h31 => ?_; clear h30
    refine pk0 (v := .int .i64 0) h31 rfl fun a32 h32 => ?_; clear h31
    refine pl_nil ?_
    refine co_then ?_
    refine wp_block ?_
    have hE0 : chkB 0 1 l = 0 := by omega
    have hup := chkB_up hE0
    have hlt9 : la < ts := by omega
    have hE9 : mvE la ts l = 0 := by rw [mvE_c (by omega) (by omega)]; exact hE0
    have hin9 := hinS
    have hof9 := hSb
    have h33 : Slots 77 [(0, pt b 0), (1, .int .u64 ts), (2, v), (30, v), (31, .int .i64 ((l.length : Nat) : Int)), (32, .int .i64 0)] _ := h32.sub ⟨rfl, rfl, rfl, rfl, rfl, rfl, trivial⟩; clear h32
    refine co_loop (fun mm a x => ∃ (k : Nat) (SA : Nat → Prop) (KA : List ByteArray) (ca : Int), Slots 77 [(0, pt b 0), (1, .int .u64 ts), (2, v), (30, v), (31, .int .i64 ((l.length : Nat) : Int)), (32, .int .i64 ((k : Nat) : Int))] a ∧ mm = l.length - k ∧ (k ≤ l.length) ∧ (∀ k, SA k → (k = b ∨ S k) ∨ w.heap.size ≤ k) ∧ (¬ SA b) ∧ (KA.length ≤ K.length + k) ∧ (ca = ce + k) ∧ Blk x b 92 #[.bool true, pt tb 0, .int .u64 la, .int .i64 ca] ∧ VkO SA x tb KA (putsF f ts (l.take k)) ∧ But (fun q => q = b ∨ S q) w x) (l.length - 0) ?_ ?_
    have hk34 := hB.below hb21
    have hO35 := VkO.gr hV (below_grown hb21) (fun k e => by cases e)
    · exact ⟨0, S, K, ce, h33.sub ⟨rfl, rfl, rfl, rfl, rfl, (slot_eq rfl (congrArg (Value.int .i64) (by first | rfl | omega))), trivial⟩, rfl, by omega, by exact hin9, by exact hof9, by omega, by omega, hk34, hO35, hB28⟩
    · rintro k36 a37 w38 ⟨k, SA, KA, ca, h37, rfl, hi39, hi40, hi41, hi42, hi43, hf44, hf45, hB46⟩
      have hz47 := hB46.size
      have hl48 := hf44.lt
      have hinA : ∀ k, SA k → (k = b ∨ S k) ∨ w.heap.size ≤ k := by assumption
      have hofA : ¬ SA b := by assumption
      refine co_seq ?_
      refine co_reg ?_
      refine pk0 (v := .bool (decide (((k : Nat) : Int) < ((l.length : Nat) : Int)))) h37 rfl fun a49 h49 => ?_; clear h37
      refine pl_nil ?_
      refine co_then ?_
      refine co_seq ?_
      cases hc50 : (decide (((k : Nat) : Int) < ((l.length : Nat) : Int)))
      ·
       rw [hc50] at h49
       have hp51 : ¬ (((k : Nat) : Int) < ((l.length : Nat) : Int)) := of_decide_eq_false hc50
       clear hc50
       refine co_false h49 rfl ?_
       refine wp_exit ?_
       refine co_thenX ?_
       refine co_thenX ?_
       refine co_blockX ?_
       refine co_then ?_
       refine co_seq ?_
       refine co_reg ?_
       refine pk0 (v := pt b 0) h49 rfl fun a52 h52 => ?_; clear h49
       refine pk0 (v := .int .u64 ts) h52 rfl fun a53 h53 => ?_; clear h52
       refine pk0 (v := pt b 0) h53 rfl fun a54 h54 => ?_; clear h53
       refine pk0 (v := pt b 2) h54 rfl fun a55 h55 => ?_; clear h54
       refine pwD h55 rfl (op_store1 rfl rfl rfl rfl Try.sizeOf27 hf44 rfl) ?_; clear h55
       rintro _ w57 a56 ⟨hk58, hz59, hg60⟩ h56
       have hk58' : Blk w57 b 92 #[.bool true, pt tb 0, .int .u64 ts, .int .i64 ca] := hk58; clear hk58
       have hz61 := hg60.size
       refine pl_nil ?_
       refine co_then ?_
       refine co_seq ?_
       refine co_reg ?_
       refine pk0 (v := .int .i64 0) h56 rfl fun a62 h62 => ?_; clear h56
       refine pl_nil ?_
       refine co_then ?_
       refine wp_ret ?_
       refine co_ret1 h62 rfl rfl ?_
       have hO63 := VkO.gr hf45 hg60 (fun k e => by cases e; exact hofA)
       have hB64 := fbU_at hB46 hg60 (fun hlt => by rcases hinb with hq | hq; exact hq; omega)
       have hk9 : l.take k = l := List.take_of_length_le (by omega)
       have hE := hE9
       have hQ1 := hO63
       have hQ2 := hk58'
       have hc9 : ca = ce + l.length := by omega
       rw [hk9] at hQ1; rw [hc9] at hQ2
       exact ⟨_, _, by rw [hE], by unfold mvLa mvCe; rw [if_pos hE, if_pos hE]; exact hQ2, by unfold mvF; rw [if_pos hE]; exact hQ1, hinA, hofA, by omega, hB64⟩
      ·
       rw [hc50] at h49
       have hp65 : ((k : Nat) : Int) < ((l.length : Nat) : Int) := of_decide_eq_true hc50
       clear hc50
       refine co_true h49 rfl ?_
       refine wp_skip ?_
       refine co_then ?_
       refine co_seq ?_
       refine wp_block ?_
       refine co_seq ?_
       refine co_reg ?_
       obtain ⟨y66, hy66⟩ : ∃ z, l[k]? = some z := ⟨_, List.getElem?_eq_getElem (by first | omega | (simp; done) | (simp; omega))⟩
       refine pk (v := pt (blkOf v) (offOf v + k * 3)) h49 rfl (rn_index rfl rfl rfl Try.underlying36 Try.sizeOf74 (sl_butNM hs hB46 hvS) (by omega) (by first | omega | (simp; done) | (simp; omega))) fun a67 h67 => ?_; clear h49
       refine pk (v := .agg #[.string y66.1, .string y66.2.1, .bool y66.2.2]) h67 rfl (rn_loadN rfl rfl Try.underlying74 rfl (by kernel_rfl) (sl_at (sl_butNM hs hB46 hvS) hy66)) fun a68 h68 => ?_; clear h67
       refine pw h68 rfl (op_new (v := fun N => pt N 0) (T := 74) (cs := #[.string (⟨#[]⟩), .string (⟨#[]⟩), .bool false]) (by kernel_rfl) (by kernel_rfl) (by kernel_rfl)) ?_; clear h68
       rintro _ w70 a69 ⟨N71, rfl, hN74, hz75, hk73, hg72⟩ h69
       have hz76 := hg72.size
       have ho77 := off_new (VkO.ofS hf45) hN74
       try dsimp only at h69
       refine pwD h69 rfl (op_storeN rfl rfl rfl (by kernel_rfl) (by kernel_rfl) hk73 rfl) ?_; clear h69
       rintro _ w79 a78 ⟨hk80, hz81, hg82⟩ h78
       have hk80' : Blk w79 N71 74 #[.string y66.1, .string y66.2.1, .bool y66.2.2] := hk80; clear hk80
       have hz83 := hg82.size
       refine pl_nil ?_
       refine co_then ?_
       refine co_seq ?_
       refine dr_gen (fun x => But (fun q => q = b ∨ S q) w x ∧ Blk x b 92 #[.bool true, pt tb 0, .int .u64 la, .int .i64 ca] ∧ Blk x N71 74 #[.string y66.1, .string y66.2.1, .bool y66.2.2]) (by kernel_rfl) (fun w84 hg85 => ?_) (fun w84 hg85 => ?_)
       ·
        have hz86 := hg85.size
        have hB87 := fbU_new hB46 hg72
        have hB88 := fbU_at hB87 hg82 (fun hlt => absurd hlt (by omega))
        have hB89 := fbU_new hB88 hg85
        have hk90 := hf44.kept hg72 (by simp)
        have hk91 := hk90.kept hg82 (by simp; omega)
        have hk92 := hk91.kept hg85 (by simp)
        have hk93 := hk80'.kept hg85 (by simp)
        exact ⟨hB89, hk92, hk93⟩
       have hz94 := hg85.size
       have hB95 := fbU_new hB46 hg72
       have hB96 := fbU_at hB95 hg82 (fun hlt => absurd hlt (by omega))
       have hB97 := fbU_new hB96 hg85
       have hk98 := hf44.kept hg72 (by simp)
       have hk99 := hk98.kept hg82 (by simp; omega)
       have hk100 := hk99.kept hg85 (by simp)
       have hk101 := hk80'.kept hg85 (by simp)
       refine dk0 0 (v := pt b 0) h78 rfl rfl ⟨hB97, hk100, hk101⟩ fun a102 h102 => ?_; clear h78
       refine dk0 1 (v := pt b 0) h102 rfl rfl ⟨hB97, hk100, hk101⟩ fun a103 h103 => ?_; clear h102
       refine dk0 2 (v := pt b 1) h103 rfl rfl ⟨hB97, hk100, hk101⟩ fun a104 h104 => ?_; clear h103
       refine dk 3 (v := pt tb 0) h104 rfl rfl ⟨hB97, hk100, hk101⟩ (fun x hx => (rn_load1 rfl rfl Try.isAgg88 (hx.2.1.cell rfl))) fun a105 h105 => ?_; clear h104
       refine dk0 4 (v := pt N71 0) h105 rfl rfl ⟨hB97, hk100, hk101⟩ fun a106 h106 => ?_; clear h105
       refine dk 5 (v := .string y66.1) h106 rfl rfl ⟨hB97, hk100, hk101⟩ (fun x hx => (rn_load1 rfl rfl Try.isAgg9 (hx.2.2.cell rfl))) fun a107 h107 => ?_; clear h106
       have hO110 := VkO.gr hf45 hg72 (fun k e => by cases e)
       have hO111 := VkO.gr hO110 hg82 (fun k e => by cases e; exact ho77)
       have hO112 := VkO.gr hO111 hg85 (fun k e => by cases e)
       refine d1 6 h107 rfl rfl (op_call (args := #[pt tb 0, .string y66.1]) (R := fun res xw => ∃ (v : SlT) (b : Bool), res = .tuple #[.slice v.a v.n v.c, .bool b] ∧ xw.ownsRow 0 99 3 (.slice v.a v.n v.c) ((putsF f ts (l.take k)) y66.1).length (((putsF f ts (l.take k)) y66.1).flatMap cellE) ∧ (∀ g, (Value.slice v.a v.n v.c).ownBlock = some g → SA g) ∧ w84 = xw) rfl rfl rfl (by kernel_rfl) (by kernel_rfl) (Try.call53 _ _) (vget_any SA w84 tb KA (putsF f ts (l.take k)) y66.1 hO112) (by rintro e x ⟨v, b, h0, h⟩; exact ⟨_, h0, v, b, rfl, h⟩)) ?_ ?_; clear h107
       ·
        rintro _ _ ⟨vv113, bb114, rfl, hr115, hi116, rfl⟩
        exact ⟨hB97, hk100, hk101⟩
       rintro _ _ a108 ⟨vv113, bb114, rfl, hr115, hi116, rfl⟩ h108
       refine dk0 7 (v := .tuple #[.slice vv113.a vv113.n vv113.c, .bool bb114]) h108 rfl rfl ⟨hB97, hk100, hk101⟩ fun a117 h117 => ?_; clear h108
       refine dk0 8 (v := .slice vv113.a vv113.n vv113.c) h117 rfl rfl ⟨hB97, hk100, hk101⟩ fun a118 h118 => ?_; clear h117
       refine dk0 9 (v := .bool bb114) h118 rfl rfl ⟨hB97, hk100, hk101⟩ fun a119 h119 => ?_; clear h118
       refine dk0 10 (v := .slice vv113.a vv113.n vv113.c) h119 rfl rfl ⟨hB97, hk100, hk101⟩ fun a120 h120 => ?_; clear h119
       refine dk0 11 (v := .bool bb114) h120 rfl rfl ⟨hB97, hk100, hk101⟩ fun a121 h121 => ?_; clear h120
       refine dr_done (by kernel_rfl) ?_
       refine co_then ?_
       refine co_seq ?_
       refine co_reg ?_
       refine pk0 (v := .slice vv113.a vv113.n vv113.c) h121 rfl fun a122 h122 => ?_; clear h121
       refine pk0 (v := .int .u64 ts) h122 rfl fun a123 h123 => ?_; clear h122
       refine pk0 (v := pt N71 1) h123 rfl fun a124 h124 => ?_; clear h123
       refine pk (v := .string y66.2.1) h124 rfl (rn_load1 rfl rfl Try.isAgg9 (hk101.cell rfl)) fun a125 h125 => ?_; clear h124
       refine pk0 (v := pt N71 2) h125 rfl fun a126 h126 => ?_; clear h125
       refine pk (v := .bool y66.2.2) h126 rfl (rn_load1 rfl rfl Try.isAgg4 (hk101.cell rfl)) fun a127 h127 => ?_; clear h126
       refine pk0 (v := .agg #[.int .u64 ts, .string y66.2.1, .bool y66.2.2]) h127 rfl fun a128 h128 => ?_; clear h127
       have hm131 := mv_now hF hup hy66 hlt9 hn
       refine pw h128 rfl (op_call (args := #[.slice vv113.a vv113.n vv113.c, .agg #[.int .u64 ts, .string y66.2.1, .bool y66.2.2]]) (R := fun res xw => ∃ v' : SlT, ∃ S' : Nat → Prop, res = .tuple #[.slice v'.a v'.n v'.c, .int .i64 0] ∧ VkO S' xw tb KA (putsF f ts (l.take k)) ∧ (xw.ownsRow 0 99 3 (.slice v'.a v'.n v'.c) (((putsF f ts (l.take k)) y66.1) ++ [(ts, y66.2.1, y66.2.2)]).length ((((putsF f ts (l.take k)) y66.1) ++ [(ts, y66.2.1, y66.2.2)]).flatMap cellE)) ∧ (∀ g, (Value.slice v'.a v'.n v'.c).ownBlock = some g → S' g) ∧ Grew SA S' w84 xw) rfl rfl rfl (by kernel_rfl) (by kernel_rfl) (Try.call71 _ _) (vvput_any SA w84 tb KA (putsF f ts (l.take k)) vv113 ((putsF f ts (l.take k)) y66.1) (ts, y66.2.1, y66.2.2) hO112 (row_sl hr115 cellE_len) hm131.1 (by show (0 : Int) < ts; have := hlt9; have := hla; omega) hm131.2) (by rintro e x ⟨v', S', h0, h⟩; exact ⟨_, h0, v', S', rfl, h⟩)) ?_; clear h128
       rintro _ w130 a129 ⟨v'132, S133, rfl, hO134, hq136, hq137, hx135⟩ h129
       have hB138 := fbU_foot hB97 hx135.but (fun i hi hq => by rcases hinA i hq with k | k; exact k; omega)
       have hz139 := hB138.size
       have hz140 := hx135.but.size
       have hin141 : ∀ q, S133 q → (q = b ∨ S q) ∨ w.heap.size ≤ q := fun q hq => by rcases hx135.sub q hq with k | k; exact hinA q k; exact .inr (by omega)
       refine pk0 (v := .tuple #[.slice v'132.a v'132.n v'132.c, .int .i64 0]) h129 rfl fun a142 h142 => ?_; clear h129
       refine pk0 (v := .slice v'132.a v'132.n v'132.c) h142 rfl fun a143 h143 => ?_; clear h142
       refine pk0 (v := .int .i64 0) h143 rfl fun a144 h144 => ?_; clear h143
       refine pk0 (v := .slice v'132.a v'132.n v'132.c) h144 rfl fun a145 h145 => ?_; clear h144
       refine pk0 (v := .int .i64 0) h145 rfl fun a146 h146 => ?_; clear h145
       refine pl_nil ?_
       refine co_then ?_
       refine co_seq ?_
       refine dr_gen (fun x => But (fun q => q = b ∨ S q) w x ∧ Blk x b 92 #[.bool true, pt tb 0, .int .u64 la, .int .i64 ca] ∧ Blk x N71 74 #[.string y66.1, .string y66.2.1, .bool y66.2.2]) (by kernel_rfl) (fun w147 hg148 => ?_) (fun w147 hg148 => ?_)
       ·
        have hz149 := hg148.size
        have hB150 := fbU_new hB138 hg148
        have hk151 := Blk.butS hk100 hx135.but hofA
        have hk152 := hk151.kept hg148 (by simp)
        have hk153 := Blk.butS hk101 hx135.but ho77
        have hk154 := hk153.kept hg148 (by simp)
        exact ⟨hB150, hk152, hk154⟩
       have hz155 := hg148.size
       have hB156 := fbU_new hB138 hg148
       have hk157 := Blk.butS hk100 hx135.but hofA
       have hk158 := hk157.kept hg148 (by simp)
       have hk159 := Blk.butS hk101 hx135.but ho77
       have hk160 := hk159.kept hg148 (by simp)
       refine dk0 0 (v := pt b 0) h146 rfl rfl ⟨hB156, hk158, hk160⟩ fun a161 h161 => ?_; clear h146
       refine dk0 1 (v := pt b 0) h161 rfl rfl ⟨hB156, hk158, hk160⟩ fun a162 h162 => ?_; clear h161
       refine dk0 2 (v := pt b 1) h162 rfl rfl ⟨hB156, hk158, hk160⟩ fun a163 h163 => ?_; clear h162
       refine dk 3 (v := pt tb 0) h163 rfl rfl ⟨hB156, hk158, hk160⟩ (fun x hx => (rn_load1 rfl rfl Try.isAgg88 (hx.2.1.cell rfl))) fun a164 h164 => ?_; clear h163
       refine dk0 4 (v := pt N71 0) h164 rfl rfl ⟨hB156, hk158, hk160⟩ fun a165 h165 => ?_; clear h164
       refine dk 5 (v := .string y66.1) h165 rfl rfl ⟨hB156, hk158, hk160⟩ (fun x hx => (rn_load1 rfl rfl Try.isAgg9 (hx.2.2.cell rfl))) fun a166 h166 => ?_; clear h165
       refine dk0 6 (v := .slice v'132.a v'132.n v'132.c) h166 rfl rfl ⟨hB156, hk158, hk160⟩ fun a167 h167 => ?_; clear h166
       have hO170 := VkO.gr hO134 hg148 (fun k e => by cases e)
       have hr171 := row_kept_new hq136 hg148
       refine d1 7 h167 rfl rfl (op_call (args := #[pt tb 0, .string y66.1, .slice v'132.a v'132.n v'132.c]) (R := fun res xw => ∃ b' : Bool, ∃ S' : Nat → Prop, res = .bool b' ∧ VkO S' xw tb (insY KA y66.1) (upd (putsF f ts (l.take k)) y66.1 (((putsF f ts (l.take k)) y66.1) ++ [(ts, y66.2.1, y66.2.2)])) ∧ Grew S133 S' w147 xw) rfl rfl rfl (by kernel_rfl) (by kernel_rfl) (Try.call72 _ _) (vput_any S133 w147 tb KA (putsF f ts (l.take k)) y66.1 v'132 (((putsF f ts (l.take k)) y66.1) ++ [(ts, y66.2.1, y66.2.2)]) hO170 hr171 hq137 (by simp) (by omega)) (by rintro e x ⟨b', S', h0, h⟩; exact ⟨_, h0, b', S', rfl, h⟩)) ?_ ?_; clear h167
       ·
        rintro _ w169 ⟨b'172, S173, rfl, hO174, hx175⟩
        have hB176 := fbU_foot hB156 hx175.but (fun i hi hq => by rcases hin141 i hq with k | k; exact k; omega)
        have hz177 := hB176.size
        have hz178 := hx175.but.size
        have hin179 : ∀ q, S173 q → (q = b ∨ S q) ∨ w.heap.size ≤ q := fun q hq => by rcases hx175.sub q hq with k | k; exact hin141 q k; exact .inr (by omega)
        have hl180 := len_insY KA y66.1
        have hk181 := Blk.butS hk158 hx175.but (Grew.off hx135 hofA hk100.lt)
        have hk182 := Blk.butS hk160 hx175.but (Grew.off hx135 ho77 hk101.lt)
        exact ⟨hB176, hk181, hk182⟩
       rintro _ w169 a168 ⟨b'172, S173, rfl, hO174, hx175⟩ h168
       have hB176 := fbU_foot hB156 hx175.but (fun i hi hq => by rcases hin141 i hq with k | k; exact k; omega)
       have hz177 := hB176.size
       have hz178 := hx175.but.size
       have hin179 : ∀ q, S173 q → (q = b ∨ S q) ∨ w.heap.size ≤ q := fun q hq => by rcases hx175.sub q hq with k | k; exact hin141 q k; exact .inr (by omega)
       have hl180 := len_insY KA y66.1
       refine dr_done (by kernel_rfl) ?_
       refine co_then ?_
       refine co_reg ?_
       refine pk0 (v := pt b 0) h168 rfl fun a181 h181 => ?_; clear h168
       refine pk0 (v := pt b 0) h181 rfl fun a182 h182 => ?_; clear h181
       refine pk0 (v := pt b 3) h182 rfl fun a183 h183 => ?_; clear h182
       have hk184 := Blk.butS hk158 hx175.but (Grew.off hx135 hofA hk100.lt)
       refine pk (v := .int .i64 ca) h183 rfl (rn_load1 rfl rfl Try.isAgg3 (hk184.cell rfl)) fun a185 h185 => ?_; clear h183
       refine pk (v := .int .i64 (ca + 1)) h185 rfl (rn_arith rfl rfl rfl rfl rfl rfl (IntWalk.i64_in _ (by omega))) fun a186 h186 => ?_; clear h185
       refine pk0 (v := pt b 0) h186 rfl fun a187 h187 => ?_; clear h186
       refine pk0 (v := pt b 3) h187 rfl fun a188 h188 => ?_; clear h187
       refine pwD h188 rfl (op_store1 rfl rfl rfl rfl Try.sizeOf3 hk184 rfl) ?_; clear h188
       rintro _ w190 a189 ⟨hk191, hz192, hg193⟩ h189
       have hk191' : Blk w190 b 92 #[.bool true, pt tb 0, .int .u64 la, .int .i64 (ca + 1)] := hk191; clear hk191
       have hz194 := hg193.size
       refine pl_nil ?_
       refine co_blockN ?_
       refine co_then ?_
       refine co_reg ?_
       refine pk (v := .int .i64 ((k + 1 : Nat) : Int)) h189 rfl (rn_arith' rfl rfl rfl rfl rfl rfl (IntWalk.i64_in _ (by omega)) (by omega)) fun a195 h195 => ?_; clear h189
       refine pk0 (v := .int .i64 ((k + 1 : Nat) : Int)) h195 rfl fun a196 h196 => ?_; clear h195
       refine pl_nil ?_
       refine co_then ?_
       refine ⟨(l.length - (k + 1)), by omega, ?_⟩
       have hin9 := hin179
       have hof9 := (Grew.off hx175 (Grew.off hx135 hofA hk100.lt) hk158.lt)
       have hO197 := VkO.gr hO174 hg193 (fun k e => by cases e; exact (Grew.off hx175 (Grew.off hx135 hofA hk100.lt) hk158.lt))
       have hB198 := fbU_at hB176 hg193 (fun hlt => by rcases hinb with hq | hq; exact hq; omega)
       exact ⟨k + 1, S173, (insY KA y66.1), (ca + 1), h196.sub ⟨rfl, rfl, rfl, rfl, rfl, rfl, trivial⟩, rfl, by omega, by exact hin9, by exact hof9, by omega, by omega, hk191', (by rw [mv_take (by assumption)]; exact hO197), hB198⟩
   ·
    rw [hc27] at h26
    have hp199 : (chkB 0 1 l) ≠ 0 := by first | simpa using hc27 | simpa [and_assoc] using hc27
    clear hc27
    refine co_true h26 rfl ?_
    refine co_seq ?_
    refine co_reg ?_
    refine pk0 (v := .int .i64 (chkB 0 1 l)) h26 rfl fun a200 h200 => ?_; clear h26
    refine pk0 (v := .int .i64 (chkB 0 1 l)) h200 rfl fun a201 h201 => ?_; clear h200
    refine pl_nil ?_
    refine co_then ?_
    refine wp_ret ?_
    refine co_thenR ?_
    refine co_ret1 h201 rfl rfl ?_
    have hk202 := hB.below hb21
    have hO203 := VkO.gr hV (below_grown hb21) (fun k e => by cases e)
    have hE : mvE la ts l = (chkB 0 1 l) := mvE_c (by omega) (by omega)
    have hz9 : ¬ mvE la ts l = 0 := by rw [hE]; omega
    exact ⟨_, _, by rw [hE], by unfold mvLa mvCe; rw [if_neg hz9, if_neg hz9]; exact hk202, by unfold mvF; rw [if_neg hz9]; exact hO203, hinS, hSb, by omega, hB28⟩
  ·
   rw [hc15] at h14
   have hp204 : ts ≤ la := of_decide_eq_true hc15
   clear hc15
   refine co_true h14 rfl ?_
   refine co_seq ?_
   refine co_reg ?_
   refine pk0 (v := .int .i64 18) h14 rfl fun a205 h205 => ?_; clear h14
   refine pl_nil ?_
   refine co_then ?_
   refine wp_ret ?_
   refine co_thenR ?_
   refine co_ret1 h205 rfl rfl ?_
   have hE : mvE la ts l = 18 := mvE_b (by omega) (by omega)
   have hz9 : ¬ mvE la ts l = 0 := by rw [hE]; omega
   exact ⟨_, _, by rw [hE], by unfold mvLa mvCe; rw [if_neg hz9, if_neg hz9]; exact hB, by unfold mvF; rw [if_neg hz9]; exact hV, hinS, hSb, by omega, hB0⟩
 ·
  rw [hc7] at h6
  have hp206 : ts = 0 := by first | simpa using hc7 | simpa [and_assoc] using hc7
  clear hc7
  refine co_true h6 rfl ?_
  refine co_seq ?_
  refine co_reg ?_
  refine pk0 (v := .int .i64 5) h6 rfl fun a207 h207 => ?_; clear h6
  refine pl_nil ?_
  refine co_then ?_
  refine wp_ret ?_
  refine co_thenR ?_
  refine co_ret1 h207 rfl rfl ?_
  have hE : mvE la ts l = 5 := mvE_a (by omega)
  have hz9 : ¬ mvE la ts l = 0 := by rw [hE]; omega
  exact ⟨_, _, by rw [hE], by unfold mvLa mvCe; rw [if_neg hz9, if_neg hz9]; exact hB, by unfold mvF; rw [if_neg hz9]; exact hV, hinS, hSb, by omega, hB0⟩
end Go.Proofs.Ytkjnhghniopnoaa

/- Package mvcc: the program's store as an object: New, Put, Prune, Get, Scan, Last, Cells; those that nobody made. Conditions: at most 100 calls, 20 operations each. -/
namespace Go.Proofs.Ytkjnhghniopnoaa
open Go.RowKit Go.PlainAid Go.Shelf
set_option linter.unusedVariables false

/-- A store that was made: what each key has, the last timestamp, the versions' number; m calls at most so far. -/
def MvO (S : Nat → Prop) (w : World) (b : Nat) (f : Fv) (la ce : Int) (m : Nat) : Prop :=
  ∃ (tb : Nat) (S1 : Nat → Prop) (K : List ByteArray), Blk w b 92 #[.bool true, pt tb 0, .int .u64 la, .int .i64 ce] ∧ VkO S1 w tb K f ∧ ¬ S1 b ∧ (∀ q, S q ↔ q = b ∨ S1 q) ∧ FOk f la m ∧ (0 ≤ la ∧ la < 18446744073709551616) ∧ K.length ≤ 20 * m ∧ (-100000000 * (m : Int) ≤ ce ∧ ce ≤ 100000000 * (m : Int))
section
variable {S D : Nat → Prop} {w x : World} {b m : Nat} {f : Fv} {la ce : Int}
theorem MvO.ofS (h : MvO S w b f la ce m) : ∀ q, S q → q < w.heap.size := fun q hq => by
  obtain ⟨tb, S1, K, h1, h2, h3, h4, _⟩ := h
  rcases (h4 q).1 hq with rfl | hq
  · exact h1.lt
  · exact h2.ofS q hq
theorem MvO.keep (h : MvO S w b f la ce m) (hk : ∀ q, S q → x.heap[q]? = w.heap[q]?) (hz : w.heap.size ≤ x.heap.size) : MvO S x b f la ce m := by
  obtain ⟨tb, S1, K, h1, h2, h3, h4, h5⟩ := h
  refine ⟨tb, S1, K, ?_, h2.keep (fun q hq => hk q ((h4 q).2 (.inr hq))) hz, h3, h4, h5⟩
  unfold Blk at h1 ⊢
  rw [hk b ((h4 b).2 (.inl rfl))]; exact h1
theorem MvO.gr {row : Option Nat} (h : MvO S w b f la ce m) (hg : w.grownBy x row) (hr : ∀ k, row = some k → ¬ S k) : MvO S x b f la ce m :=
  h.keep (fun q hq => hg.block q (h.ofS q hq) (fun e => hr q e.symm hq)) hg.size
theorem MvO.but (h : MvO S w b f la ce m) (hb : But D w x) (ha : ∀ q, D q → S q → False) : MvO S x b f la ce m :=
  h.keep (fun q hq => hb.block q (h.ofS q hq) (fun hd => ha q hd hq)) hb.size
theorem mvLa_bd {ts : Int} {l : List OpT} (h : 0 ≤ la ∧ la < 18446744073709551616) (hts : 0 ≤ ts ∧ ts < 18446744073709551616) : (0 ≤ mvLa la ts l ∧ mvLa la ts l < 18446744073709551616) ∧ la ≤ mvLa la ts l := by
  unfold mvLa
  split
  · rename_i hE
    by_cases h1 : ts = 0
    · rw [mvE_a h1] at hE; cases hE
    · by_cases h2 : ts ≤ la
      · rw [mvE_b h1 h2] at hE; cases hE
      · exact ⟨hts, by omega⟩
  · exact ⟨h, Int.le_refl _⟩
theorem mv_good {ts : Int} {l : List OpT} (hE : mvE la ts l = 0) : ¬ ts = 0 ∧ la < ts ∧ chkB 0 1 l = 0 := by
  by_cases h1 : ts = 0
  · rw [mvE_a h1] at hE; cases hE
  · by_cases h2 : ts ≤ la
    · rw [mvE_b h1 h2] at hE; cases hE
    · rw [mvE_c h1 h2] at hE; exact ⟨h1, by omega, hE⟩
theorem FOk.mv {ts : Int} {l : List OpT} (h : FOk f la m) (hts : 0 ≤ ts ∧ ts < 18446744073709551616) : FOk (mvF f la ts l) (mvLa la ts l) (m + 1) := by
  unfold mvF mvLa
  by_cases hE : mvE la ts l = 0
  · obtain ⟨h1, h2, h3⟩ := mv_good hE
    rw [if_pos hE, if_pos hE]
    exact h.puts h2 ⟨by omega, hts.2⟩ (chkB_up h3)
  · rw [if_neg hE, if_neg hE]; exact h.mono (Int.le_refl _) (by omega)
theorem mvPut (w : World) (ts : Int) (v : Value) (l : List OpT) (h : MvO S w b f la ce m) (hs : SliceOf opE 3 w v l) (hvS : l ≠ [] → ∀ k, v.ownBlock = some k → ¬ S k) (hl : l.length ≤ 20) (hts : 0 ≤ ts ∧ ts < 18446744073709551616) (hm : m ≤ 100) :
    Calls Try.prog 43 #[pt b 0, .int .u64 ts, v] w fun e w' => ∃ S' : Nat → Prop, e = .returned (.int .i64 (mvE la ts l)) ∧ MvO S' w' b (mvF f la ts l) (mvLa la ts l) (mvCe la ts ce l) (m + 1) ∧ Grew S S' w w' := by
  obtain ⟨tb, S1, K, h1, h2, h3, h4, h5, h6, h7, h8⟩ := h
  refine (mput_blk S1 b tb K f la ce m ts v l w h1 h2 h3 h5 (by omega) h6 (by omega) hs (fun hn k hk hq => hvS hn k hk ((h4 k).2 hq)) hts (by omega) hl).mono ?_
  rintro e w' ⟨S', K', rfl, k1, k2, k3, k4, k5, k6⟩
  refine ⟨fun q => q = b ∨ S' q, rfl, ⟨tb, S', K', k1, k2, k4, fun q => Iff.rfl, h5.mv hts, (mvLa_bd h6 hts).1, by omega, ?_⟩, fun q hq => ?_, k6.mono fun q _ hq => (h4 q).2 hq⟩
  · unfold mvCe; split <;> omega
  · rcases hq with rfl | hq
    · exact .inl ((h4 _).2 (.inl rfl))
    · rcases k3 q hq with k | k
      · exact .inl ((h4 q).2 k)
      · exact .inr k
theorem mvGet (w : World) (k : ByteArray) (t : Int) (h : MvO S w b f la ce m) :
    Calls Try.prog 28 #[pt b 0, .string k, .int .u64 t] w fun e w' => e = .returned (.tuple #[.string (atS (f k) t).1, .bool (atS (f k) t).2]) ∧ Below w.heap.size w w' := by
  obtain ⟨tb, S1, K, h1, h2, h3, h4, h5, _⟩ := h
  exact mget_blk b tb _ _ S1 K f k t la m w h1 h2 h5
end
set_option maxRecDepth 100000
theorem mvNew (w : World) : Calls Try.prog 14 #[] w fun e w' => ∃ (N : Nat) (S : Nat → Prop), e = .returned (pt N 0) ∧ MvO S w' N (fun _ => []) 0 0 0 ∧ (∀ q, S q → w.heap.size ≤ q) ∧ Below w.heap.size w w' := by
  go_enter Try.func14, Try.ntmps14
  go_wp2_with fail
  refine (tnew_any w).mono ?_
  rintro e w1 ⟨S0, rfl, hT, hlo, hb⟩
  have HT := Lib.hid hT; have HL := Lib.hid hlo; have HB := Lib.hid hb; clear hT hlo hb
  go_wp2
  go_ret
  have hg := World.grownBy_alloc w1 (.cells #[.bool true, pt w.heap.size 0, .int .u64 0, .int .i64 0] 92) none
  refine ⟨w1.heap.size, fun q => q = w1.heap.size ∨ S0 q, rfl, ⟨w.heap.size, S0, [], World.alloc_heap_new w1 _, ⟨S0, [], 0, HT.out.gr hg (fun k e => by cases e), rfl, ⟨List.Pairwise.nil, by simp⟩, by simp, fun q hq => hq, fun q hq => Nat.lt_of_lt_of_le (HT.out.ofS q hq) hg.size⟩, fun hq => by have := HT.out.ofS _ hq; omega, fun q => Iff.rfl, ⟨by simp, fun _ => rfl, fun _ => Int.le_refl _, by simp⟩, by omega, by simp, by omega⟩, fun q hq => ?_, HB.out.alloc HB.out.size _⟩
  rcases hq with rfl | hq
  · exact HB.out.size
  · exact HL.out q hq
/-- Nobody made it. -/
def NoMv (w : World) (p : Value) : Prop := p = .pointer none ∨ ∃ b u v c, p = pt b 0 ∧ Blk w b 92 #[.bool false, u, v, c]
theorem NoMv.gr {w x : World} {p : Value} (h : NoMv w p) (hg : w.grownBy x none) : NoMv x p := by
  rcases h with rfl | ⟨b, u, v, c, rfl, h⟩
  · exact .inl rfl
  · exact .inr ⟨b, u, v, c, rfl, h.kept hg (by simp)⟩
end Go.Proofs.Ytkjnhghniopnoaa

/- Package rstate: New, Stamped. Conditions: none. -/
namespace Go.Proofs.Ytkjnhghniopnoaa
open Go.RowKit Go.PlainAid
set_option linter.unusedVariables false
set_option linter.unusedSimpArgs false


def bA : ByteArray := ⟨#[97]⟩
def b1 : ByteArray := ⟨#[49]⟩
def opA : OpT := (bA, b1, false)
theorem mvo_butR {S D : Nat → Prop} {w x : World} {b m : Nat} {f : Fv} {la ce : Int} (h : MvO S w b f la ce m) (hb : But D w x) (ha : ∀ q, S q → D q → False) : MvO S x b f la ce m := h.but hb (fun q h1 h2 => ha q h2 h1)
def enA (v : Value) (ts : Int) : EntT := EntT.mk 0 1 v [opA] ts
set_option maxRecDepth 100000 in
theorem rsNew_blk  (w : World)  :
    Calls Try.prog 8 #[] w fun e w' => ∃ (b : Nat) (q : Nat) (g : Nat) (S' : Nat → Prop), e = .returned (pt b 0) ∧ Blk w' b 68 #[pt q 0] ∧ Blk w' q 80 #[pt g 0, .int .i64 0, .slice none 0 0, .int .u64 0, .int .u64 0] ∧ LObj S' w' g [] ∧ ¬ S' b ∧ ¬ S' q ∧ (∀ k, S' k → w.heap.size ≤ k) ∧ w.heap.size ≤ b ∧ w.heap.size ≤ q ∧ Below w.heap.size w w' := by
 have hB0 := Below.refl w.heap.size w
 refine co_enter (n := 6) Try.func8 rfl rfl rfl [] rfl (fun a h0 => ?_)
 refine co_seq ?_
 refine co_reg ?_
 refine pk0 (v := .pointer none) h0 rfl fun a1 h1 => ?_; clear h0
 refine pl_nil ?_
 refine co_then ?_
 refine co_seq ?_
 refine co_reg ?_
 refine pw h1 rfl (op_call (args := #[]) (R := fun res xw => ∃ N S, res = pt N 0 ∧ LObj S xw N [] ∧ (∀ q, S q → w.heap.size ≤ q) ∧ Below w.heap.size w xw) rfl rfl rfl (by kernel_rfl) (by kernel_rfl) (Try.call29 _ _) (tNew w) (by rintro e x ⟨N, S, rfl, h⟩; exact ⟨_, rfl, N, S, rfl, h⟩)) ?_; clear h1
 rintro _ w3 a2 ⟨N4, S5, rfl, hO6, hlo7, hb8⟩ h2
 have hz9 := hb8.size
 have hlo10 : ∀ q, S5 q → w.heap.size ≤ q := fun q hq => by have := hlo7 q hq; omega
 refine pk0 (v := .agg #[pt N4 0, .int .i64 0, .slice none 0 0, .int .u64 0, .int .u64 0]) h2 rfl fun a11 h11 => ?_; clear h2
 refine pw h11 rfl (op_new (v := fun N => pt N 0) (T := 80) (cs := #[pt N4 0, .int .i64 0, .slice none 0 0, .int .u64 0, .int .u64 0]) (by kernel_rfl) (by kernel_rfl) (by kernel_rfl)) ?_; clear h11
 rintro _ w13 a12 ⟨N14, rfl, hN17, hz18, hk16, hg15⟩ h12
 have hz19 := hg15.size
 have ho20 := off_new (LObj.ofS hO6) hN17
 try dsimp only at h12
 refine pk0 (v := .agg #[pt N14 0]) h12 rfl fun a21 h21 => ?_; clear h12
 refine pw h21 rfl (op_new (v := fun N => pt N 0) (T := 68) (cs := #[pt N14 0]) (by kernel_rfl) (by kernel_rfl) (by kernel_rfl)) ?_; clear h21
 rintro _ w23 a22 ⟨N24, rfl, hN27, hz28, hk26, hg25⟩ h22
 have hz29 := hg25.size
 have hO31 := LObj.gr hO6 hg15 (fun k e => by cases e)
 have ho30 := off_new (LObj.ofS hO31) hN27
 try dsimp only at h22
 refine pk0 (v := pt N24 0) h22 rfl fun a32 h32 => ?_; clear h22
 refine pl_nil ?_
 refine co_then ?_
 refine wp_ret ?_
 refine co_ret1 h32 rfl rfl ?_
 have hk33 := hk16.kept hg25 (by simp)
 have hO34 := LObj.gr hO31 hg25 (fun k e => by cases e)
 have hB35 := hb_call hB0 hb8
 have hB36 := hb_new hB35 hg15
 have hB37 := hb_new hB36 hg25
 exact ⟨_, _, _, _, rfl, hk26, hk33, hO34, ho30, ho20, hlo10, by omega, by omega, hB37⟩
set_option maxRecDepth 100000 in
theorem rsStamped_blk (b : Nat) (q : Nat) (g : Nat) (S : Nat → Prop) (L : List EntT) (ep : Int) (cv : Value) (fl : Int) (hz : Int) (w : World) (hb : Blk w b 68 #[pt q 0]) (hq : Blk w q 80 #[pt g 0, .int .i64 ep, cv, .int .u64 fl, .int .u64 hz]) (hL : LObj S w g L) (hSb : ¬ S b) (hSq : ¬ S q) :
    Calls Try.prog 19 #[pt b 0] w fun e w' => ∃ (S' : Nat → Prop), e = .returned (.int .i64 ((stN L : Nat) : Int)) ∧ LObj S' w' g L ∧ (∀ k, S' k → S k ∨ w.heap.size ≤ k) ∧ But (S) w w' := by
 have hlq := hq.lt
 have hlb := hb.lt
 have hB0 := But.refl (S) w
 have hl_hb := hb.lt
 have hl_hq := hq.lt
 have hinS : ∀ k, S k → S k ∨ w.heap.size ≤ k := fun k hk => .inl hk
 refine co_enter (n := 9) Try.func19 rfl rfl rfl [(0, pt b 0)] rfl (fun a h0 => ?_)
 refine co_seq ?_
 refine co_reg ?_
 refine pk0 (v := .int .i64 0) h0 rfl fun a1 h1 => ?_; clear h0
 refine pl_nil ?_
 refine co_then ?_
 refine co_seq ?_
 refine co_reg ?_
 refine pk0 (v := pt b 0) h1 rfl fun a2 h2 => ?_; clear h1
 refine pw h2 rfl (op_call (args := #[pt b 0]) (R := fun res xw => res = pt q 0 ∧ w = xw) rfl rfl rfl (by kernel_rfl) (by kernel_rfl) (Try.call30 _ _) (rsgetT b q w hb) (by rintro e x ⟨rfl, rfl⟩; exact ⟨_, rfl, ⟨rfl, rfl⟩⟩)) ?_; clear h2
 rintro _ _ a3 ⟨rfl, rfl⟩ h3
 refine pk0 (v := pt q 0) h3 rfl fun a6 h6 => ?_; clear h3
 refine pk0 (v := pt q 0) h6 rfl fun a7 h7 => ?_; clear h6
 refine pk (v := pt g 0) h7 rfl (rn_load1 rfl rfl Try.isAgg77 (hq.cell rfl)) fun a8 h8 => ?_; clear h7
 refine pw h8 rfl (op_call (args := #[pt g 0]) (R := fun res xw => ∃ S' : Nat → Prop, res = .int .i64 ((stN L : Nat) : Int) ∧ LObj S' xw g L ∧ Grew S S' w xw) rfl rfl rfl (by kernel_rfl) (by kernel_rfl) (Try.call41 _ _) (tStamped w hL) (by rintro e x ⟨S', h0, h⟩; exact ⟨_, h0, S', rfl, h⟩)) ?_; clear h8
 rintro _ w10 a9 ⟨S11, rfl, hO12, hx13⟩ h9
 have hB14 := fbU_foot hB0 hx13.but (fun i hi hq => by rcases hinS i hq with k | k; exact k; omega)
 have hz15 := hB14.size
 have hz16 := hx13.but.size
 have hin17 : ∀ k, S11 k → (S k) ∨ w.heap.size ≤ k := fun k hk => by rcases hx13.sub k hk with j | j; exact hinS k j; exact .inr (by omega)
 refine pk0 (v := .int .i64 ((stN L : Nat) : Int)) h9 rfl fun a18 h18 => ?_; clear h9
 refine pl_nil ?_
 refine co_then ?_
 refine wp_ret ?_
 refine co_ret1 h18 rfl rfl ?_
 exact ⟨_, rfl, hO12, hin17, hB14⟩
end Go.Proofs.Ytkjnhghniopnoaa

/- Package rstate: Feed of one entry. Conditions: the entry of awake. -/
namespace Go.Proofs.Ytkjnhghniopnoaa
open Go.RowKit Go.PlainAid
set_option linter.unusedVariables false
set_option linter.unusedSimpArgs false

set_option maxRecDepth 100000 in
set_option maxHeartbeats 1600000 in
theorem rsFeed1_blk (b : Nat) (q : Nat) (g : Nat) (S : Nat → Prop) (v : Value) (ep : Int) (cv : Value) (fl : Int) (hz : Int) (m : Nat) (D : Nat → Prop) (w : World) (hb : Blk w b 68 #[pt q 0]) (hq : Blk w q 80 #[pt g 0, .int .i64 ep, cv, .int .u64 fl, .int .u64 hz]) (hL : LObj S w g [enA v 5]) (hSb : ¬ S b) (hSq : ¬ S q) (hV : MvO D w m (fun _ => []) 0 0 0) (hap : ∀ k, S k → D k → False) (hDb : ¬ D b) (hDq : ¬ D q) :
    Calls Try.prog 15 #[pt b 0, pt m 0, .int .i64 0, .int .i64 9] w fun e w' => ∃ (S' : Nat → Prop) (D' : Nat → Prop), e = .returned (.int .i64 1) ∧ LObj S' w' g [enA v 5] ∧ MvO D' w' m (mvF (fun _ => []) 0 5 [opA]) (mvLa 0 5 [opA]) (mvCe 0 5 0 [opA]) 1 ∧ (∀ k, S' k → S k ∨ w.heap.size ≤ k) ∧ (∀ k, D' k → D k ∨ w.heap.size ≤ k) ∧ (∀ k, S' k → D' k → False) ∧ But (fun k => S k ∨ D k) w w' := by
 have hlq := hq.lt
 have hlb := hb.lt
 have hB0 := But.refl (fun k => S k ∨ D k) w
 have hl_hb := hb.lt
 have hl_hq := hq.lt
 have hinS : ∀ k, S k → S k ∨ w.heap.size ≤ k := fun k hk => .inl hk
 have hinD : ∀ k, D k → D k ∨ w.heap.size ≤ k := fun k hk => .inl hk
 refine co_enter (n := 51) Try.func15 rfl rfl rfl [(0, pt b 0), (1, pt m 0), (2, .int .i64 0), (3, .int .i64 9)] rfl (fun a h0 => ?_)
 refine co_seq ?_
 refine co_reg ?_
 refine pk0 (v := .int .i64 0) h0 rfl fun a1 h1 => ?_; clear h0
 refine pl_nil ?_
 refine co_then ?_
 refine co_seq ?_
 refine co_reg ?_
 refine pk0 (v := pt b 0) h1 rfl fun a2 h2 => ?_; clear h1
 refine pw h2 rfl (op_call (args := #[pt b 0]) (R := fun res xw => res = pt q 0 ∧ w = xw) rfl rfl rfl (by kernel_rfl) (by kernel_rfl) (Try.call30 _ _) (rsgetT b q w hb) (by rintro e x ⟨rfl, rfl⟩; exact ⟨_, rfl, ⟨rfl, rfl⟩⟩)) ?_; clear h2
 rintro _ _ a3 ⟨rfl, rfl⟩ h3
 refine pk0 (v := pt q 0) h3 rfl fun a6 h6 => ?_; clear h3
 refine pl_nil ?_
 refine co_then ?_
 refine co_seq ?_
 refine co_seq ?_
 refine co_reg ?_
 refine pk0 (v := pt q 0) h6 rfl fun a7 h7 => ?_; clear h6
 refine pw h7 rfl (op_call (args := #[pt q 0]) (R := fun res xw => res = .bool false ∧ w = xw) rfl rfl rfl (by kernel_rfl) (by kernel_rfl) (Try.call32 _ _) (rszeroT q g ep cv fl hz w hq) (by rintro e x ⟨rfl, rfl⟩; exact ⟨_, rfl, ⟨rfl, rfl⟩⟩)) ?_; clear h7
 rintro _ _ a8 ⟨rfl, rfl⟩ h8
 refine pl_nil ?_
 refine co_then ?_
 refine co_false h8 rfl ?_
 refine wp_skip ?_
 refine co_then ?_
 refine co_seq ?_
 refine co_reg ?_
 refine pk0 (v := .int .i64 0) h8 rfl fun a11 h11 => ?_; clear h8
 obtain ⟨kp12, hkp13⟩ : ∃ z : Int, z = (if 0 < 0 then 0 else 0) := ⟨_, rfl⟩
 have hq14 : kp12 ≥ 0 ∧ kp12 ≥ 0 ∧ (kp12 = 0 ∨ kp12 = 0) := by rw [hkp13]; split <;> omega
 refine pk (v := .int .i64 kp12) h11 rfl (by rw [hkp13]; kernel_rfl) fun a15 h15 => ?_; clear h11
 refine pk0 (v := .int .i64 kp12) h15 rfl fun a16 h16 => ?_; clear h15
 refine pl_nil ?_
 refine co_then ?_
 refine co_seq ?_
 refine co_reg ?_
 refine pk0 (v := .int .i64 9) h16 rfl fun a17 h17 => ?_; clear h16
 refine pk0 (v := pt q 0) h17 rfl fun a18 h18 => ?_; clear h17
 refine pk0 (v := pt q 0) h18 rfl fun a19 h19 => ?_; clear h18
 refine pk0 (v := pt q 0) h19 rfl fun a20 h20 => ?_; clear h19
 refine pk (v := pt g 0) h20 rfl (rn_load1 rfl rfl Try.isAgg77 (hq.cell rfl)) fun a21 h21 => ?_; clear h20
 refine pw h21 rfl (op_call (args := #[pt g 0]) (R := fun res xw => ∃ S' : Nat → Prop, res = .int .i64 1 ∧ LObj S' xw g [enA v 5] ∧ Grew S S' w xw) rfl rfl rfl (by kernel_rfl) (by kernel_rfl) (Try.call41 _ _) (tStamped w hL) (by rintro e x ⟨S', h0, h⟩; exact ⟨_, h0, S', rfl, h⟩)) ?_; clear h21
 rintro _ w23 a22 ⟨S24, rfl, hO25, hx26⟩ h22
 have hB27 := fbU_foot hB0 hx26.but (fun i hi hq => by rcases hinS i hq with k | k; (first | exact k | exact .inl k | exact .inr k); omega)
 have hz28 := hB27.size
 have hz29 := hx26.but.size
 have hin30 : ∀ k, S24 k → (S k) ∨ w.heap.size ≤ k := fun k hk => by rcases hx26.sub k hk with j | j; exact hinS k j; exact .inr (by omega)
 obtain ⟨kp31, hkp32⟩ : ∃ z : Int, z = (if 1 < 9 then 1 else 9) := ⟨_, rfl⟩
 have hq33 : kp31 ≤ 9 ∧ kp31 ≤ 1 ∧ (kp31 = 9 ∨ kp31 = 1) := by rw [hkp32]; split <;> omega
 refine pk (v := .int .i64 kp31) h22 rfl (by rw [hkp32]; kernel_rfl) fun a34 h34 => ?_; clear h22
 refine pk0 (v := .int .i64 kp31) h34 rfl fun a35 h35 => ?_; clear h34
 refine pl_nil ?_
 refine co_then ?_
 refine co_seq ?_
 refine co_seq ?_
 refine co_reg ?_
 refine pk0 (v := .int .i64 kp12) h35 rfl fun a36 h36 => ?_; clear h35
 refine pk0 (v := .int .i64 kp12) h36 rfl fun a37 h37 => ?_; clear h36
 refine pl_nil ?_
 refine co_then ?_
 refine wp_block ?_
 refine wp_loop_rounds 2 ?_
 refine co_unroll (n := 1) ?_
 refine co_seq ?_
 refine co_seq ?_
 refine co_reg ?_
 refine pk0 (v := .int .i64 kp12) h37 rfl fun a38 h38 => ?_; clear h37
 refine pk0 (v := .int .i64 kp31) h38 rfl fun a39 h39 => ?_; clear h38
 refine pk0 (v := .bool (decide (kp12 < kp31))) h39 rfl fun a40 h40 => ?_; clear h39
 refine pl_nil ?_
 refine co_then ?_
 have hc41 : (decide (kp12 < kp31)) = true := decide_eq_true (by omega)
 rw [hc41] at h40; clear hc41
 refine co_true h40 rfl ?_
 refine wp_skip ?_
 refine co_then ?_
 refine co_seq ?_
 refine wp_block ?_
 refine co_seq ?_
 refine co_reg ?_
 refine pk0 (v := pt q 0) h40 rfl fun a42 h42 => ?_; clear h40
 refine pk0 (v := pt q 0) h42 rfl fun a43 h43 => ?_; clear h42
 refine pk0 (v := pt q 0) h43 rfl fun a44 h44 => ?_; clear h43
 have hk45 := Blk.butS hq hx26.but hSq
 refine pk (v := pt g 0) h44 rfl (rn_load1 rfl rfl Try.isAgg77 (hk45.cell rfl)) fun a46 h46 => ?_; clear h44
 refine pk0 (v := .int .i64 kp12) h46 rfl fun a47 h47 => ?_; clear h46
 have hO51 := mvo_butR hV hx26.but (ap_symm hap)
 have ho50 := MvO.ofS hO51
 have ho52 := LObj.ofS hO25
 refine pw h47 rfl (op_call (args := #[pt g 0, .int .i64 kp12]) (R := fun res xw => ∃ ev : Value, ∃ S' : Nat → Prop, res = .tuple #[.agg #[.int .i64 0, .int .i64 1, ev, .int .u64 5], .bool true] ∧ LObj S' xw g [enA v 5] ∧ (xw.ownsRow w23.heap.size 74 3 ev [opA].length ([opA].flatMap opE)) ∧ (∀ q, S' q → q < w23.heap.size) ∧ Grew S24 S' w23 xw) rfl rfl rfl (by kernel_rfl) (by kernel_rfl) (Try.call42 _ _) (tAt w23 kp12 hO25) (by rintro e x ⟨ev, S', h0, h1, h2, h3, h4⟩; rw [show kp12 = (0 : Int) from by omega] at h0 h1; exact ⟨_, h0, ev, S', rfl, h2, h1, h3, h4⟩)) ?_; clear h47
 rintro _ w49 a48 ⟨ev53, S54, rfl, hO55, hq57, hq58, hx56⟩ h48
 have hk59 := Blk.butS hb hx26.but hSb
 have hB60 := fbU_foot hB27 hx56.but (fun i hi hq => by rcases hin30 i hq with k | k; (first | exact k | exact .inl k | exact .inr k); omega)
 have hz61 := hB60.size
 have hz62 := hx56.but.size
 have hin63 : ∀ k, S54 k → (S k) ∨ w.heap.size ≤ k := fun k hk => by rcases hx56.sub k hk with j | j; exact hin30 k j; exact .inr (by omega)
 refine pk0 (v := .tuple #[.agg #[.int .i64 0, .int .i64 1, ev53, .int .u64 5], .bool true]) h48 rfl fun a64 h64 => ?_; clear h48
 refine pk0 (v := .agg #[.int .i64 0, .int .i64 1, ev53, .int .u64 5]) h64 rfl fun a65 h65 => ?_; clear h64
 refine pk0 (v := .bool true) h65 rfl fun a66 h66 => ?_; clear h65
 refine pw h66 rfl (op_new (v := fun N => pt N 0) (T := 40) (cs := #[.int .i64 0, .int .i64 0, .slice none 0 0, .int .u64 0]) (by kernel_rfl) (by kernel_rfl) (by kernel_rfl)) ?_; clear h66
 rintro _ w68 a67 ⟨N69, rfl, hN72, hz73, hk71, hg70⟩ h67
 have ha74 := row_fresh hq57 hN72
 have hu75 := row_under hq57 hN72
 have hz76 := hg70.size
 have hO78 := mvo_butR hO51 hx56.but (ap_symm (Grew.ap hx26 (ap_symm (ap_symm hap)) (MvO.ofS hV)))
 have ho77 := off_new (MvO.ofS hO78) hN72
 have ho79 := off_new (LObj.ofS hO55) hN72
 try dsimp only at h67
 have hr85 := row_kept_new hq57 hg70
 refine pwD h67 rfl (op_storeN rfl rfl rfl (all_cons rfl (all_cons rfl (all_cons (row_one hr85) (all_cons rfl all_nil)))) (by kernel_rfl) hk71 rfl) ?_; clear h67
 rintro _ w81 a80 ⟨hk82, hz83, hg84⟩ h80
 have hk82' : Blk w81 N69 40 #[.int .i64 0, .int .i64 1, ev53, .int .u64 5] := hk82; clear hk82
 have hz86 := hg84.size
 refine pk0 (v := .bool true) h80 rfl fun a87 h87 => ?_; clear h80
 refine pl_nil ?_
 refine co_then ?_
 refine co_reg ?_
 refine pk0 (v := pt m 0) h87 rfl fun a88 h88 => ?_; clear h87
 refine pk0 (v := pt N69 3) h88 rfl fun a89 h89 => ?_; clear h88
 refine pk (v := .int .u64 5) h89 rfl (rn_load1 rfl rfl Try.isAgg27 (hk82'.cell rfl)) fun a90 h90 => ?_; clear h89
 refine pk0 (v := pt N69 0) h90 rfl fun a91 h91 => ?_; clear h90
 refine pk0 (v := pt N69 2) h91 rfl fun a92 h92 => ?_; clear h91
 refine pk (v := ev53) h92 rfl (rn_load1 rfl rfl Try.isAgg36 (hk82'.cell rfl)) fun a93 h93 => ?_; clear h92
 have hO97 := MvO.gr hO78 hg70 (fun k e => by cases e)
 have hO98 := MvO.gr hO97 hg84 (fun k e => by cases e; exact ho77)
 have ho96 := MvO.ofS hO98
 have hO100 := LObj.gr hO55 hg70 (fun k e => by cases e)
 have hO101 := LObj.gr hO100 hg84 (fun k e => by cases e; exact ho79)
 have ho99 := LObj.ofS hO101
 have hr102 := row_kept_at hr85 hg84 (ha74)
 have hB103 := fbU_new hB60 hg70
 have hB104 := fbU_at hB103 hg84 (fun hlt => absurd hlt (by omega))
 have hk105 := Blk.butS hk59 hx56.but (Grew.off hx26 hSb hb.lt)
 have hk106 := hk105.kept hg70 (by simp)
 have hk107 := hk106.kept hg84 (by simp; omega)
 have hk108 := Blk.butS hk45 hx56.but (Grew.off hx26 hSq hq.lt)
 have hk109 := hk108.kept hg70 (by simp)
 have hk110 := hk109.kept hg84 (by simp; omega)
 refine pw h93 rfl (op_call (args := #[pt m 0, .int .u64 5, ev53]) (R := fun res xw => ∃ S' : Nat → Prop, res = .int .i64 (mvE 0 5 [opA]) ∧ MvO S' xw m (mvF (fun _ => []) 0 5 [opA]) (mvLa 0 5 [opA]) (mvCe 0 5 0 [opA]) 1 ∧ Grew D S' w81 xw) rfl rfl rfl (by kernel_rfl) (by kernel_rfl) (Try.call43 _ _) (mvPut w81 5 ev53 [opA] hO98 (row_sl hr102 opE_len) (fun _ => (offR_row ho50 hr102 (Nat.le_refl _))) (by decide) (by decide) (by decide)) (by rintro e x ⟨S', h0, h⟩; exact ⟨_, h0, S', rfl, h⟩)) ?_; clear h93
 rintro _ w95 a94 ⟨S111, rfl, hO112, hx113⟩ h94
 have hB114 := fbU_foot hB104 hx113.but (fun i hi hq => by rcases hinD i hq with k | k; (first | exact k | exact .inl k | exact .inr k); omega)
 have hz115 := hB114.size
 have hz116 := hx113.but.size
 have hin117 : ∀ k, S111 k → (D k) ∨ w.heap.size ≤ k := fun k hk => by rcases hx113.sub k hk with j | j; exact hinD k j; exact .inr (by omega)
 refine pl_nil ?_
 refine co_blockN ?_
 refine co_then ?_
 refine co_reg ?_
 refine pk0 (v := .int .i64 kp12) h94 rfl fun a118 h118 => ?_; clear h94
 refine pk (v := .int .i64 (kp12 + 1)) h118 rfl (rn_arith rfl rfl rfl rfl rfl rfl (IntWalk.i64_in _ (by omega))) fun a119 h119 => ?_; clear h118
 refine pk0 (v := .int .i64 (kp12 + 1)) h119 rfl fun a120 h120 => ?_; clear h119
 refine pl_nil ?_
 refine co_then ?_
 refine co_unroll (n := 0) ?_
 refine co_seq ?_
 refine co_seq ?_
 refine co_reg ?_
 refine pk0 (v := .int .i64 (kp12 + 1)) h120 rfl fun a121 h121 => ?_; clear h120
 refine pk0 (v := .int .i64 kp31) h121 rfl fun a122 h122 => ?_; clear h121
 refine pk0 (v := .bool (decide (kp12 + 1 < kp31))) h122 rfl fun a123 h123 => ?_; clear h122
 refine pl_nil ?_
 refine co_then ?_
 have hc124 : (decide (kp12 + 1 < kp31)) = false := decide_eq_false (by omega)
 rw [hc124] at h123; clear hc124
 refine co_false h123 rfl ?_
 refine wp_exit ?_
 refine co_thenX ?_
 refine co_thenX ?_
 refine co_blockX ?_
 refine co_then ?_
 refine co_seq ?_
 refine co_reg ?_
 refine pk0 (v := .int .i64 kp12) h123 rfl fun a125 h125 => ?_; clear h123
 refine pk0 (v := .int .i64 kp31) h125 rfl fun a126 h126 => ?_; clear h125
 obtain ⟨kp127, hkp128⟩ : ∃ z : Int, z = (if kp12 < kp31 then kp31 else kp12) := ⟨_, rfl⟩
 have hq129 : kp127 ≥ kp12 ∧ kp127 ≥ kp31 ∧ (kp127 = kp12 ∨ kp127 = kp31) := by rw [hkp128]; split <;> omega
 refine pk (v := .int .i64 kp127) h126 rfl (by rw [hkp128]; kernel_rfl) fun a130 h130 => ?_; clear h126
 refine pk0 (v := .int .i64 kp127) h130 rfl fun a131 h131 => ?_; clear h130
 refine pl_nil ?_
 refine co_then ?_
 refine wp_ret ?_
 refine co_ret1 h131 rfl rfl ?_
 have hO132 := LObj.butA hO101 hx113.but (ap_symm (ap_symm (Grew.ap hx56 (ap_symm (ap_symm (Grew.ap hx26 (ap_symm (ap_symm hap)) (MvO.ofS hV)))) (MvO.ofS hO51))))
 exact ⟨_, _, ret_int (by omega), hO132, hO112, hin63, hin117, (ap_symm (Grew.ap hx113 (ap_symm (ap_symm (ap_symm (Grew.ap hx56 (ap_symm (ap_symm (Grew.ap hx26 (ap_symm (ap_symm hap)) (MvO.ofS hV)))) (MvO.ofS hO51))))) (LObj.ofS hO101))), hB114⟩
end Go.Proofs.Ytkjnhghniopnoaa

/- Package rstate: a state as an object; New, Apply, Stamped; with a store: Feed of one entry. Conditions: none. -/
namespace Go.Proofs.Ytkjnhghniopnoaa
open Go.RowKit Go.PlainAid
set_option linter.unusedVariables false
set_option linter.unusedSimpArgs false

/-- A state that lies at b: entries, epoch, horizon. -/
def StO (S : Nat → Prop) (w : World) (b : Nat) (L : List EntT) (ep hz : Int) : Prop :=
  ∃ (q g : Nat) (A : Nat → Prop) (cv : Value) (ms : List MemT) (fl : Int), Blk w b 68 #[pt q 0] ∧ Blk w q 80 #[pt g 0, .int .i64 ep, cv, .int .u64 fl, .int .u64 hz] ∧ LObj A w g L ∧
    w.ownsRow 0 117 2 cv ms.length (ms.flatMap memE) ∧ ms.length ≤ 20 ∧ (∀ i, cv.ownBlock = some i → ¬ A i) ∧ ¬ A b ∧ ¬ A q ∧ b ≠ q ∧ RI L ∧ (∀ k, S k ↔ (k = b ∨ k = q ∨ A k ∨ cv.ownBlock = some k))
section
variable {S D A : Nat → Prop} {w x : World} {b m n : Nat} {L : List EntT} {ep hz la ce : Int} {f : Fv}
theorem StO.ofS (h : StO S w b L ep hz) : ∀ k, S k → k < w.heap.size := by
  obtain ⟨q, g, A, cv, ms, fl, h1, h2, h3, h4, h5, h6, h7, h8, h9, h10, h11⟩ := h
  intro k hk
  rcases (h11 k).1 hk with rfl | rfl | hk | hk
  · exact h1.lt
  · exact h2.lt
  · exact h3.ofS k hk
  · exact (h4.lt k hk).2
theorem StO.keep (h : StO S w b L ep hz) (hk : ∀ k, S k → x.heap[k]? = w.heap[k]?) (hz' : w.heap.size ≤ x.heap.size) : StO S x b L ep hz := by
  obtain ⟨q, g, A, cv, ms, fl, h1, h2, h3, h4, h5, h6, h7, h8, h9, h10, h11⟩ := h
  refine ⟨q, g, A, cv, ms, fl, ?_, ?_, h3.keep hz' (fun k j => hk k ((h11 k).2 (.inr (.inr (.inl j))))), row_sameL h4 (fun i hi => hk i ((h11 i).2 (.inr (.inr (.inr hi))))), h5, h6, h7, h8, h9, h10, h11⟩
  · unfold Blk at h1 ⊢; rw [hk b ((h11 b).2 (.inl rfl))]; exact h1
  · unfold Blk at h2 ⊢; rw [hk q ((h11 q).2 (.inr (.inl rfl)))]; exact h2
theorem StO.gr {row : Option Nat} (h : StO S w b L ep hz) (hg : w.grownBy x row) (hr : ∀ k, row = some k → ¬ S k) : StO S x b L ep hz :=
  h.keep (fun q hq => hg.block q (h.ofS q hq) (fun e => hr q e.symm hq)) hg.size
theorem StO.but (h : StO S w b L ep hz) (hb : But D w x) (ha : ∀ q, S q → D q → False) : StO S x b L ep hz :=
  h.keep (fun q hq => hb.block q (h.ofS q hq) (fun hd => ha q hq hd)) hb.size
theorem StO.ri (h : StO S w b L ep hz) : RI L := by obtain ⟨_, _, _, _, _, _, _, _, _, _, _, _, _, _, _, h10, _⟩ := h; exact h10
theorem stNew (w : World) : Calls Try.prog 8 #[] w fun e w' => ∃ (N : Nat) (S : Nat → Prop), e = .returned (pt N 0) ∧ StO S w' N [] 0 0 ∧ (∀ k, S k → w.heap.size ≤ k) ∧ Below w.heap.size w w' := by
  refine (rsNew_blk w).mono ?_
  rintro e x ⟨b, q, g, A, rfl, h1, h2, h3, h4, h5, h6, h7, h8, h9⟩
  refine ⟨b, fun k => k = b ∨ k = q ∨ A k ∨ (Value.slice none 0 0).ownBlock = some k, rfl, ⟨q, g, A, .slice none 0 0, [], 0, h1, h2, h3, World.ownsRow_nil _ _ _ _, by decide, (fun i hi => by simp [Value.ownBlock] at hi), h4, h5, ?_, RI.nil, fun k => Iff.rfl⟩, ?_, h9⟩
  · intro e
    subst e
    unfold Blk at h1 h2
    rw [h1] at h2
    injection h2 with e; injection e with e1 e2 e3
    exact absurd e2 (by decide)
  · rintro k (rfl | rfl | hk | hk)
    · exact h7
    · exact h8
    · exact h6 k hk
    · simp [Value.ownBlock] at hk
theorem stApply (w : World) (d : NoteD) (mv lv ev : Value) (h : StO S w b L ep hz) (hm : SliceOf memE 2 w mv d.ms) (hg : SliceOf (intE .i64) 1 w lv d.lg) (he : SliceOf opE 3 w ev d.el) (hR : NoteR d)
    (hbm : d.ms ≠ [] → ∀ k, mv.ownBlock = some k → ¬ S k) (hbg : d.lg ≠ [] → ∀ k, lv.ownBlock = some k → ¬ S k) (hbe : d.el ≠ [] → ∀ k, ev.ownBlock = some k → ¬ S k) :
    Calls Try.prog 11 #[pt b 0, .agg #[.int .i64 d.k, .int .i64 d.n, .int .u64 d.t, .int .i64 d.ep, mv, .int .u64 d.fl, lv, .int .i64 d.ec, .int .i64 d.er, ev, .int .u64 d.ets, .int .i64 d.pid, .int .u64 d.pat, .int .i64 d.plf, .int .i64 d.sc, .int .i64 d.sr, .int .i64 d.se, .int .i64 d.sp]] w fun e w' =>
      ∃ (r : Int) (L' : List EntT) (ep' hz' : Int) (S' : Nat → Prop), e = .returned (.int .i64 r) ∧ StO S' w' b L' ep' hz' ∧ ApR d ep hz L r ep' hz' L' ∧ Grew S S' w w' := by
  obtain ⟨q, g, A, cv, ms, fl, h1, h2, h3, h4, h5, h6, h7, h8, h9, h10, h11⟩ := h
  have hf : ∀ k, (k = q ∨ A k) → S k := fun k hk => (h11 k).2 (by rcases hk with e | hk; exact .inr (.inl e); exact .inr (.inr (.inl hk)))
  refine (rsApply_blk b q g A L ep cv ms fl hz d mv lv ev w h1 h2 h3 h7 h8 h4 h6 h5 h10 h9 hm hg he hR (fun hn k hk hj => hbm hn k hk (hf k hj)) (fun hn k hk hj => hbg hn k hk (hf k hj)) (fun hn k hk hj => hbe hn k hk (hf k hj))).mono ?_
  rintro e x ⟨r, A', L', ep', cv', ms', fl', hz', rfl, k1, k2, k3, k4, k5, k6, k7, k8, k9, k10⟩
  refine ⟨r, L', ep', hz', fun k => k = b ∨ k = q ∨ A' k ∨ cv'.ownBlock = some k, rfl, ⟨q, g, A', cv', ms', fl', h1.butS k10 ?_, k1, k2, k3, k4, k5, ?_, k7, h9, k8.ri h10, fun k => Iff.rfl⟩, k8, fun k hk => ?_, k10.mono fun k _ hk => hf k hk⟩
  · rintro (e | e); exact h9 e; exact h7 e
  · intro hb
    rcases k6 b hb with (e | e) | e
    · exact h9 e
    · exact h7 e
    · have := h1.lt; omega
  · rcases hk with rfl | rfl | hk | hk
    · exact .inl ((h11 _).2 (.inl rfl))
    · exact .inl ((h11 _).2 (.inr (.inl rfl)))
    · rcases k6 k hk with e | e
      · exact .inl (hf k e)
      · exact .inr e
    · rcases k9 k hk with e | e
      · exact .inl ((h11 k).2 (.inr (.inr (.inr e))))
      · exact .inr e
theorem stStamped (w : World) (h : StO S w b L ep hz) : Calls Try.prog 19 #[pt b 0] w fun e w' => ∃ S' : Nat → Prop, e = .returned (.int .i64 (stN L : Nat)) ∧ StO S' w' b L ep hz ∧ Grew S S' w w' := by
  obtain ⟨q, g, A, cv, ms, fl, h1, h2, h3, h4, h5, h6, h7, h8, h9, h10, h11⟩ := h
  refine (rsStamped_blk b q g A L ep cv fl hz w h1 h2 h3 h7 h8).mono ?_
  rintro e x ⟨A', rfl, k1, k2, k3⟩
  have hn : ∀ k, k < w.heap.size → ¬ A k → ¬ A' k := fun k hk hA hj => by
    rcases k2 k hj with e | e
    · exact hA e
    · omega
  refine ⟨fun k => k = b ∨ k = q ∨ A' k ∨ cv.ownBlock = some k, rfl, ⟨q, g, A', cv, ms, fl, h1.butS k3 h7, h2.butS k3 h8, k1, own_butS h4 k3 h6, h5, fun i hi => hn i (h4.lt i hi).2 (h6 i hi), hn b h1.lt h7, hn q h2.lt h8, h9, h10, fun k => Iff.rfl⟩, fun k hk => ?_, k3.mono fun k _ hk => (h11 k).2 (.inr (.inr (.inl hk)))⟩
  rcases hk with rfl | rfl | hk | hk
  · exact .inl ((h11 _).2 (.inl rfl))
  · exact .inl ((h11 _).2 (.inr (.inl rfl)))
  · rcases k2 k hk with e | e
    · exact .inl ((h11 k).2 (.inr (.inr (.inl e))))
    · exact .inr e
  · exact .inl ((h11 k).2 (.inr (.inr (.inr hk))))
/-- A state and a store. -/
def TwS (S : Nat → Prop) (w : World) (b m : Nat) (L : List EntT) (ep hz : Int) (f : Fv) (la ce : Int) (n : Nat) : Prop :=
  ∃ A D, StO A w b L ep hz ∧ MvO D w m f la ce n ∧ (∀ k, A k → D k → False) ∧ ∀ k, S k ↔ (A k ∨ D k)
theorem TwS.ofS (h : TwS S w b m L ep hz f la ce n) : ∀ k, S k → k < w.heap.size := by
  obtain ⟨A, D, h1, h2, h3, h4⟩ := h
  intro k hk
  rcases (h4 k).1 hk with hk | hk
  · exact h1.ofS k hk
  · exact h2.ofS k hk
theorem TwS.keep (h : TwS S w b m L ep hz f la ce n) (hk : ∀ k, S k → x.heap[k]? = w.heap[k]?) (hz' : w.heap.size ≤ x.heap.size) : TwS S x b m L ep hz f la ce n := by
  obtain ⟨A, D, h1, h2, h3, h4⟩ := h
  exact ⟨A, D, h1.keep (fun k hA => hk k ((h4 k).2 (.inl hA))) hz', h2.keep (fun k hD => hk k ((h4 k).2 (.inr hD))) hz', h3, h4⟩
theorem TwS.gr {row : Option Nat} (h : TwS S w b m L ep hz f la ce n) (hg : w.grownBy x row) (hr : ∀ k, row = some k → ¬ S k) : TwS S x b m L ep hz f la ce n :=
  h.keep (fun q hq => hg.block q (h.ofS q hq) (fun e => hr q e.symm hq)) hg.size
theorem TwS.but (h : TwS S w b m L ep hz f la ce n) (hb : But D w x) (ha : ∀ q, S q → D q → False) : TwS S x b m L ep hz f la ce n :=
  h.keep (fun q hq => hb.block q (h.ofS q hq) (fun hd => ha q hq hd)) hb.size
theorem TwS.re {A D A' : Nat → Prop} {L' : List EntT} {ep' hz' : Int} (h2 : MvO D w m f la ce n) (h3 : ∀ k, A k → D k → False) (h4 : ∀ k, S k ↔ (A k ∨ D k)) (k1 : StO A' x b L' ep' hz') (g : Grew A A' w x) :
    ∃ S', TwS S' x b m L' ep' hz' f la ce n ∧ Grew S S' w x :=
  ⟨fun k => A' k ∨ D k, ⟨A', D, k1, h2.but g.but (fun q h5 h6 => h3 q h5 h6), fun k h5 h6 => (g.sub k h5).elim (fun j => h3 k j h6) (fun j => by have := h2.ofS k h6; omega), fun k => Iff.rfl⟩, fun k hk => by
    rcases hk with hk | hk
    · exact (g.sub k hk).imp (fun j => (h4 k).2 (.inl j)) id
    · exact .inl ((h4 k).2 (.inr hk)), g.but.mono fun k _ hk => (h4 k).2 (.inl hk)⟩
theorem twNew (w : World) (h : StO S w b L ep hz) : Calls Try.prog 14 #[] w fun e w' => ∃ (N : Nat) (S' : Nat → Prop), e = .returned (pt N 0) ∧ TwS S' w' b N L ep hz (fun _ => []) 0 0 0 ∧ Grew S S' w w' := by
  refine (mvNew w).mono ?_
  rintro e x ⟨N, D, rfl, k1, k2, k3⟩
  refine ⟨N, fun k => S k ∨ D k, rfl, ⟨S, D, h.gr (below_grown k3) (fun k e => by cases e), k1, fun k h1 h2 => by have := h.ofS k h1; have := k2 k h2; omega, fun k => Iff.rfl⟩, fun k hk => hk.imp id (k2 k), ?_⟩
  exact But.of_below k3
theorem twStamped (w : World) (h : TwS S w b m L ep hz f la ce n) : Calls Try.prog 19 #[pt b 0] w fun e w' => ∃ S' : Nat → Prop, e = .returned (.int .i64 (stN L : Nat)) ∧ TwS S' w' b m L ep hz f la ce n ∧ Grew S S' w w' := by
  obtain ⟨A, D, h1, h2, h3, h4⟩ := h
  refine (stStamped w h1).mono ?_
  rintro e x ⟨A', rfl, k1, g⟩
  obtain ⟨S', q1, q2⟩ := TwS.re h2 h3 h4 k1 g
  exact ⟨S', rfl, q1, q2⟩
theorem twApply (w : World) (d : NoteD) (mv lv ev : Value) (h : TwS S w b m L ep hz f la ce n) (hm : SliceOf memE 2 w mv d.ms) (hg : SliceOf (intE .i64) 1 w lv d.lg) (he : SliceOf opE 3 w ev d.el) (hR : NoteR d)
    (hbm : d.ms ≠ [] → ∀ k, mv.ownBlock = some k → ¬ S k) (hbg : d.lg ≠ [] → ∀ k, lv.ownBlock = some k → ¬ S k) (hbe : d.el ≠ [] → ∀ k, ev.ownBlock = some k → ¬ S k) :
    Calls Try.prog 11 #[pt b 0, .agg #[.int .i64 d.k, .int .i64 d.n, .int .u64 d.t, .int .i64 d.ep, mv, .int .u64 d.fl, lv, .int .i64 d.ec, .int .i64 d.er, ev, .int .u64 d.ets, .int .i64 d.pid, .int .u64 d.pat, .int .i64 d.plf, .int .i64 d.sc, .int .i64 d.sr, .int .i64 d.se, .int .i64 d.sp]] w fun e w' =>
      ∃ (r : Int) (L' : List EntT) (ep' hz' : Int) (S' : Nat → Prop), e = .returned (.int .i64 r) ∧ TwS S' w' b m L' ep' hz' f la ce n ∧ ApR d ep hz L r ep' hz' L' ∧ Grew S S' w w' := by
  obtain ⟨A, D, h1, h2, h3, h4⟩ := h
  refine (stApply w d mv lv ev h1 hm hg he hR (fun hn k hk hj => hbm hn k hk ((h4 k).2 (.inl hj))) (fun hn k hk hj => hbg hn k hk ((h4 k).2 (.inl hj))) (fun hn k hk hj => hbe hn k hk ((h4 k).2 (.inl hj)))).mono ?_
  rintro e x ⟨r, L', ep', hz', A', rfl, k1, k2, g⟩
  obtain ⟨S', q1, q2⟩ := TwS.re h2 h3 h4 k1 g
  exact ⟨r, L', ep', hz', S', rfl, q1, k2, q2⟩
theorem twGet (w : World) (k : ByteArray) (t : Int) (h : TwS S w b m L ep hz f la ce n) :
    Calls Try.prog 28 #[pt m 0, .string k, .int .u64 t] w fun e w' => e = .returned (.tuple #[.string (atS (f k) t).1, .bool (atS (f k) t).2]) ∧ Below w.heap.size w w' := by
  obtain ⟨A, D, h1, h2, h3, h4⟩ := h
  exact mvGet w k t h2
theorem twFeed1 (w : World) (v : Value) (h : TwS S w b m [enA v 5] ep hz (fun _ => []) 0 0 0) :
    Calls Try.prog 15 #[pt b 0, pt m 0, .int .i64 0, .int .i64 9] w fun e w' => ∃ S' : Nat → Prop, e = .returned (.int .i64 1) ∧ TwS S' w' b m [enA v 5] ep hz (mvF (fun _ => []) 0 5 [opA]) (mvLa 0 5 [opA]) (mvCe 0 5 0 [opA]) 1 ∧ Grew S S' w w' := by
  obtain ⟨A0, D, ⟨q, g, A, cv, ms, fl, h1, h2, h3, h4, h5, h6, h7, h8, h9, h10, h11⟩, i2, i3, i4⟩ := h
  have dA : ∀ k, A k → D k → False := fun k ha hd => i3 k ((h11 k).2 (.inr (.inr (.inl ha)))) hd
  have dv : ∀ k, cv.ownBlock = some k → ¬ D k := fun k ha hd => i3 k ((h11 k).2 (.inr (.inr (.inr ha)))) hd
  have db : ¬ D b := fun hd => i3 b ((h11 b).2 (.inl rfl)) hd
  have dq : ¬ D q := fun hd => i3 q ((h11 q).2 (.inr (.inl rfl))) hd
  refine (rsFeed1_blk b q g A v ep cv fl hz m D w h1 h2 h3 h7 h8 i2 dA db dq).mono ?_
  rintro e x ⟨A', D', rfl, k1, k2, k3, k4, k5, k6⟩
  have hn : ∀ k, k < w.heap.size → ¬ A k → ¬ A' k := fun k hk hA hj => by
    rcases k3 k hj with e | e
    · exact hA e
    · omega
  have hd : ∀ k, k < w.heap.size → ¬ D k → ¬ D' k := fun k hk hA hj => by
    rcases k4 k hj with e | e
    · exact hA e
    · omega
  refine ⟨fun k => (k = b ∨ k = q ∨ A' k ∨ cv.ownBlock = some k) ∨ D' k, rfl, ⟨fun k => k = b ∨ k = q ∨ A' k ∨ cv.ownBlock = some k, D', ⟨q, g, A', cv, ms, fl, h1.butS k6 (by rintro (e | e); exact h7 e; exact db e), h2.butS k6 (by rintro (e | e); exact h8 e; exact dq e), k1, own_butS h4 k6 (fun i hi => by rintro (e | e); exact h6 i hi e; exact dv i hi e), h5, fun i hi => hn i (h4.lt i hi).2 (h6 i hi), hn b h1.lt h7, hn q h2.lt h8, h9, h10, fun k => Iff.rfl⟩, k2, ?_, fun k => Iff.rfl⟩, fun k hk => ?_, k6.mono fun k _ hk => (i4 k).2 (hk.imp (fun j => (h11 k).2 (.inr (.inr (.inl j)))) id)⟩
  · rintro k (rfl | rfl | hk | hk) hD
    · exact hd _ h1.lt db hD
    · exact hd _ h2.lt dq hD
    · exact k5 k hk hD
    · exact hd k (h4.lt k hk).2 (dv k hk) hD
  · rcases hk with (rfl | rfl | hk | hk) | hk
    · exact .inl ((i4 _).2 (.inl ((h11 _).2 (.inl rfl))))
    · exact .inl ((i4 _).2 (.inl ((h11 _).2 (.inr (.inl rfl)))))
    · rcases k3 k hk with e | e
      · exact .inl ((i4 k).2 (.inl ((h11 k).2 (.inr (.inr (.inl e))))))
      · exact .inr e
    · exact .inl ((i4 k).2 (.inl ((h11 k).2 (.inr (.inr (.inr hk))))))
    · rcases k4 k hk with e | e
      · exact .inl ((i4 k).2 (.inr e))
      · exact .inr e
end
end Go.Proofs.Ytkjnhghniopnoaa

/- catenalaw30: awake. Conditions: none. -/
namespace Go.Proofs.Ytkjnhghniopnoaa
open Go.RowKit Go.PlainAid
set_option linter.unusedVariables false
set_option linter.unusedSimpArgs false


def dPut : NoteD := ⟨2, 0, 0, 0, [], 0, [], 0, 1, [opA], 0, 0, 0, 0, 0, 0, 0, 0⟩
def dSta : NoteD := ⟨3, 0, 5, 0, [], 0, [], 0, 0, [], 0, 0, 0, 0, 0, 0, 0, 0⟩
def dLeg : NoteD := ⟨5, 0, 0, 0, [], 0, [], 0, 0, [], 0, 0, 0, 0, 0, 0, 0, 0⟩
theorem d3_R (d : NoteD) (h : d = dPut ∨ d = dSta ∨ d = dLeg) : NoteR d := by
  rcases h with rfl | rfl | rfl <;> exact ⟨(fun m hm => by cases hm), by decide⟩
theorem aw_ok : chkB 0 1 [opA] = 0 := by rfl
theorem c_put : chkN dPut = 0 := by rw [chkN_2 rfl]; exact aw_ok
theorem c_sta : chkN dSta = 0 := by rw [chkN_3 (.inl rfl)]; rfl
theorem c_leg : chkN dLeg = 0 := by rw [chkN_3 (.inr (.inr (.inl rfl)))]; rfl
theorem awA1 {r ep' hz' : Int} {L' : List EntT} (h : ApR dPut 0 0 [] r ep' hz' L') : r = 0 ∧ ep' = 0 ∧ hz' = 0 ∧ ∃ v, L' = [enA v 0] := by
  rcases h with ⟨_, _, h1, h2, h3, h4⟩ | ⟨_, h, _⟩ | ⟨_, h, _⟩ | ⟨_, h, _⟩ | ⟨h, _⟩
  · refine ⟨h1.trans (by rfl), h3, h4, ?_⟩
    rcases h2 with ⟨h, _⟩ | ⟨_, ⟨h, _⟩ | ⟨_, v, h⟩⟩
    · exact absurd (by rfl) h
    · cases h
    · exact ⟨v, h⟩
  · exact absurd h (by decide)
  · exact absurd h (by decide)
  · exact absurd h (by decide)
  · rcases h with ⟨h, _⟩ | ⟨_, h, _⟩ | ⟨_, _, h, _⟩
    · exact absurd c_put h
    · rcases h with ⟨h, _⟩ | ⟨h, _⟩ <;> exact absurd h (by decide)
    · exact absurd rfl h
theorem awA2 {v : Value} {r ep' hz' : Int} {L' : List EntT} (h : ApR dSta 0 0 [enA v 0] r ep' hz' L') : r = 0 ∧ ep' = 0 ∧ hz' = 0 ∧ L' = [enA v 5] := by
  rcases h with ⟨_, h, _⟩ | ⟨_, _, h1, h2, h3, h4⟩ | ⟨_, h, _⟩ | ⟨_, h, _⟩ | ⟨h, _⟩
  · exact absurd h (by decide)
  · exact ⟨h1.trans (by rfl), h3, h4, h2.trans (by rfl)⟩
  · exact absurd h (by decide)
  · exact absurd h (by decide)
  · rcases h with ⟨h, _⟩ | ⟨_, h, _⟩ | ⟨_, _, _, h, _⟩
    · exact absurd c_sta h
    · rcases h with ⟨h, _⟩ | ⟨h, _⟩ <;> exact absurd h (by decide)
    · exact absurd rfl h
theorem awA3 {v : Value} {r ep' hz' : Int} {L' : List EntT} (h : ApR dLeg 0 0 [enA v 5] r ep' hz' L') : r = 11 ∧ ep' = 0 ∧ hz' = 0 ∧ L' = [enA v 5] := by
  rcases h with ⟨_, h, _⟩ | ⟨_, h, _⟩ | ⟨_, h, _⟩ | ⟨_, h, _⟩ | ⟨h, h2, h3, h4⟩
  · exact absurd h (by decide)
  · exact absurd h (by decide)
  · exact absurd h (by decide)
  · exact absurd h (by decide)
  · rcases h with ⟨h, _⟩ | ⟨_, h, _⟩ | ⟨_, _, _, _, _, h⟩
    · exact absurd c_leg h
    · rcases h with ⟨h, _⟩ | ⟨h, _⟩ <;> exact absurd h (by decide)
    · exact ⟨h, h3, h4, h2⟩
section
variable {S : Nat → Prop} {b m n : Nat} {la ce : Int} {f : Fv}
theorem awAp1 (w : World) (ev : Value) (h : StO S w b [] 0 0) (he : SliceOf opE 3 w ev [opA]) (ho : [opA] ≠ [] → ∀ k, ev.ownBlock = some k → ¬ S k) :
    Calls Try.prog 11 #[pt b 0, .agg #[.int .i64 2, .int .i64 0, .int .u64 0, .int .i64 0, .slice none 0 0, .int .u64 0, .slice none 0 0, .int .i64 0, .int .i64 1, ev, .int .u64 0, .int .i64 0, .int .u64 0, .int .i64 0, .int .i64 0, .int .i64 0, .int .i64 0, .int .i64 0]] w fun e w' => ∃ (v : Value) (S' : Nat → Prop), e = .returned (.int .i64 0) ∧ StO S' w' b [enA v 0] 0 0 ∧ Grew S S' w w' := by
  refine (stApply w dPut (.slice none 0 0) (.slice none 0 0) ev h (sl_nil _) (sl_nil _) he (d3_R _ (.inl rfl)) (fun h => absurd rfl h) (fun h => absurd rfl h) ho).mono ?_
  rintro e x ⟨r, L', ep', hz', S', rfl, k1, k2, g⟩
  obtain ⟨rfl, rfl, rfl, v, rfl⟩ := awA1 k2
  exact ⟨v, S', rfl, k1, g⟩
theorem awAp2 (w : World) (v : Value) (h : StO S w b [enA v 0] 0 0) :
    Calls Try.prog 11 #[pt b 0, .agg #[.int .i64 3, .int .i64 0, .int .u64 5, .int .i64 0, .slice none 0 0, .int .u64 0, .slice none 0 0, .int .i64 0, .int .i64 0, .slice none 0 0, .int .u64 0, .int .i64 0, .int .u64 0, .int .i64 0, .int .i64 0, .int .i64 0, .int .i64 0, .int .i64 0]] w fun e w' => ∃ (S' : Nat → Prop), e = .returned (.int .i64 0) ∧ StO S' w' b [enA v 5] 0 0 ∧ Grew S S' w w' := by
  refine (stApply w dSta (.slice none 0 0) (.slice none 0 0) (.slice none 0 0) h (sl_nil _) (sl_nil _) (sl_nil _) (d3_R _ (.inr (.inl rfl))) (fun h => absurd rfl h) (fun h => absurd rfl h) (fun h => absurd rfl h)).mono ?_
  rintro e x ⟨r, L', ep', hz', S', rfl, k1, k2, g⟩
  obtain ⟨rfl, rfl, rfl, rfl⟩ := awA2 k2
  exact ⟨S', rfl, k1, g⟩
theorem awAp3 (w : World) (v : Value) (h : TwS S w b m [enA v 5] 0 0 f la ce n) :
    Calls Try.prog 11 #[pt b 0, .agg #[.int .i64 5, .int .i64 0, .int .u64 0, .int .i64 0, .slice none 0 0, .int .u64 0, .slice none 0 0, .int .i64 0, .int .i64 0, .slice none 0 0, .int .u64 0, .int .i64 0, .int .u64 0, .int .i64 0, .int .i64 0, .int .i64 0, .int .i64 0, .int .i64 0]] w fun e w' => ∃ (S' : Nat → Prop), e = .returned (.int .i64 11) ∧ TwS S' w' b m [enA v 5] 0 0 f la ce n ∧ Grew S S' w w' := by
  refine (twApply w dLeg (.slice none 0 0) (.slice none 0 0) (.slice none 0 0) h (sl_nil _) (sl_nil _) (sl_nil _) (d3_R _ (.inr (.inr rfl))) (fun h => absurd rfl h) (fun h => absurd rfl h) (fun h => absurd rfl h)).mono ?_
  rintro e x ⟨r, L', ep', hz', S', rfl, k1, k2, g⟩
  obtain ⟨rfl, rfl, rfl, rfl⟩ := awA3 k2
  exact ⟨S', rfl, k1, g⟩
end
theorem aw_e : mvE 0 5 [opA] = 0 := by rw [mvE_c (by decide) (by decide), aw_ok]
theorem aw_get : atS (mvF (fun _ => []) 0 5 [opA] ⟨#[97]⟩) 5 = (⟨#[49]⟩, true) := by
  have e1 : mvF (fun _ => []) 0 5 [opA] ⟨#[97]⟩ = [(5, ⟨#[49]⟩, false)] := by
    unfold mvF; rw [if_pos aw_e]
    have e : putsF (fun _ => []) 5 [opA] = upd (fun _ => []) ⟨#[97]⟩ ([] ++ [(5, ⟨#[49]⟩, false)]) := rfl
    rw [e, upd_eq]; rfl
  rw [e1]; rfl

set_option maxRecDepth 100000 in
set_option maxHeartbeats 1600000 in
theorem awake30  (w : World)  :
    Calls Try.prog 7 #[] w fun e w' => e = .returned (.bool true) ∧ Below w.heap.size w w' := by
 have hB0 := Below.refl w.heap.size w
 refine co_enter (n := 56) Try.func7 rfl rfl rfl [] rfl (fun a h0 => ?_)
 refine co_seq ?_
 refine co_reg ?_
 refine pk0 (v := .bool false) h0 rfl fun a1 h1 => ?_; clear h0
 refine pl_nil ?_
 refine co_then ?_
 refine co_seq ?_
 refine co_reg ?_
 refine pw h1 rfl (op_call (args := #[]) (R := fun res xw => ∃ N S, res = pt N 0 ∧ StO S xw N [] 0 0 ∧ (∀ q, S q → w.heap.size ≤ q) ∧ Below w.heap.size w xw) rfl rfl rfl (by kernel_rfl) (by kernel_rfl) (Try.call8 _ _) (stNew w) (by rintro e x ⟨N, S, rfl, h⟩; exact ⟨_, rfl, N, S, rfl, h⟩)) ?_; clear h1
 rintro _ w3 a2 ⟨N4, S5, rfl, hO6, hlo7, hb8⟩ h2
 have hz9 := hb8.size
 have hlo10 : ∀ q, S5 q → w.heap.size ≤ q := fun q hq => by have := hlo7 q hq; omega
 refine pk0 (v := pt N4 0) h2 rfl fun a11 h11 => ?_; clear h2
 refine pl_nil ?_
 refine co_then ?_
 refine co_seq ?_
 refine co_reg ?_
 refine pk0 (v := pt N4 0) h11 rfl fun a12 h12 => ?_; clear h11
 refine pk0 (v := .agg #[.string (⟨#[97]⟩), .string (⟨#[49]⟩), .bool false]) h12 rfl fun a13 h13 => ?_; clear h12
 refine pw h13 rfl (op_new (v := fun N => .slice (some ⟨N, 0, none⟩) 1 1) (T := 74) (cs := #[.string (⟨#[97]⟩), .string (⟨#[49]⟩), .bool false]) (by kernel_rfl) (by kernel_rfl) (by kernel_rfl)) ?_; clear h13
 rintro _ w15 a14 ⟨N16, rfl, hN19, hz20, hk18, hg17⟩ h14
 have hz21 := hg17.size
 have ho22 := off_new (StO.ofS hO6) hN19
 try dsimp only at h14
 refine pk0 (v := .agg #[.int .i64 0, .int .i64 1, .slice (some ⟨N16, 0, none⟩) 1 1]) h14 rfl fun a23 h23 => ?_; clear h14
 refine pk0 (v := .agg #[.int .i64 0, .int .i64 1, .slice (some ⟨N16, 0, none⟩) 1 1, .int .u64 0]) h23 rfl fun a24 h24 => ?_; clear h23
 refine pk0 (v := .agg #[.int .i64 2, .int .i64 0, .int .u64 0, .int .i64 0, .slice none 0 0, .int .u64 0, .slice none 0 0, .int .i64 0, .int .i64 1, .slice (some ⟨N16, 0, none⟩) 1 1, .int .u64 0, .int .i64 0, .int .u64 0, .int .i64 0, .int .i64 0, .int .i64 0, .int .i64 0, .int .i64 0]) h24 rfl fun a25 h25 => ?_; clear h24
 have hB28 := hb_call hB0 hb8
 have hB29 := hb_new hB28 hg17
 have hO31 := StO.gr hO6 hg17 (fun k e => by cases e)
 have ho30 := StO.ofS hO31
 have hr32 := row_of_cells (enc := opE) (sz := 3) ([(⟨#[97]⟩, ⟨#[49]⟩, false)] : List OpT) hk18 (Nat.le_refl _) rfl rfl (by unfold maxLen; simp)
 refine pw h25 rfl (op_call (args := #[pt N4 0, .agg #[.int .i64 2, .int .i64 0, .int .u64 0, .int .i64 0, .slice none 0 0, .int .u64 0, .slice none 0 0, .int .i64 0, .int .i64 1, .slice (some ⟨N16, 0, none⟩) 1 1, .int .u64 0, .int .i64 0, .int .u64 0, .int .i64 0, .int .i64 0, .int .i64 0, .int .i64 0, .int .i64 0]]) (R := fun res xw => ∃ v : Value, ∃ S' : Nat → Prop, res = .int .i64 0 ∧ StO S' xw N4 [enA v 0] 0 0 ∧ Grew S5 S' w15 xw) rfl rfl rfl (by kernel_rfl) (by kernel_rfl) (Try.call11 _ _) (awAp1 w15 (.slice (some ⟨N16, 0, none⟩) 1 1) hO31 (row_sl hr32 opE_len) (fun _ => (fun k hk => by cases hk; exact ho22))) (by rintro e x ⟨v, S', h0, h⟩; exact ⟨_, h0, v, S', rfl, h⟩)) ?_; clear h25
 rintro _ w27 a26 ⟨v33, S34, rfl, hO35, hx36⟩ h26
 have hlo38 : ∀ q, S34 q → w.heap.size ≤ q := hx36.lo hlo10 (by omega)
 have hB37 := hbL hB29 hlo10 hx36.but
 have hz39 := hB37.size
 have hz40 := hx36.but.size
 refine pk0 (v := .int .i64 0) h26 rfl fun a41 h41 => ?_; clear h26
 refine pl_nil ?_
 refine co_then ?_
 refine co_seq ?_
 refine co_reg ?_
 refine pk0 (v := pt N4 0) h41 rfl fun a42 h42 => ?_; clear h41
 refine pk0 (v := .agg #[.int .i64 3, .int .i64 0, .int .u64 5, .int .i64 0, .slice none 0 0, .int .u64 0, .slice none 0 0, .int .i64 0, .int .i64 0, .slice none 0 0, .int .u64 0, .int .i64 0, .int .u64 0, .int .i64 0, .int .i64 0, .int .i64 0, .int .i64 0, .int .i64 0]) h42 rfl fun a43 h43 => ?_; clear h42
 have ho46 := StO.ofS hO35
 refine pw h43 rfl (op_call (args := #[pt N4 0, .agg #[.int .i64 3, .int .i64 0, .int .u64 5, .int .i64 0, .slice none 0 0, .int .u64 0, .slice none 0 0, .int .i64 0, .int .i64 0, .slice none 0 0, .int .u64 0, .int .i64 0, .int .u64 0, .int .i64 0, .int .i64 0, .int .i64 0, .int .i64 0, .int .i64 0]]) (R := fun res xw => ∃ S' : Nat → Prop, res = .int .i64 0 ∧ StO S' xw N4 [enA v33 5] 0 0 ∧ Grew S34 S' w27 xw) rfl rfl rfl (by kernel_rfl) (by kernel_rfl) (Try.call11 _ _) (awAp2 w27 v33 hO35) (by rintro e x ⟨S', h0, h⟩; exact ⟨_, h0, S', rfl, h⟩)) ?_; clear h43
 rintro _ w45 a44 ⟨S47, rfl, hO48, hx49⟩ h44
 have hr50 := own_butS hr32 hx36.but (fun k hk => by cases hk; exact ho22)
 have hlo52 : ∀ q, S47 q → w.heap.size ≤ q := hx49.lo hlo38 (by omega)
 have hB51 := hbL hB37 hlo38 hx49.but
 have hz53 := hB51.size
 have hz54 := hx49.but.size
 refine pk0 (v := .int .i64 0) h44 rfl fun a55 h55 => ?_; clear h44
 refine pl_nil ?_
 refine co_then ?_
 refine co_seq ?_
 refine co_reg ?_
 refine pw h55 rfl (op_call (args := #[]) (R := fun res xw => ∃ N : Nat, ∃ S' : Nat → Prop, res = pt N 0 ∧ TwS S' xw N4 N [enA v33 5] 0 0 (fun _ => []) 0 0 0 ∧ Grew S47 S' w45 xw) rfl rfl rfl (by kernel_rfl) (by kernel_rfl) (Try.call14 _ _) (twNew w45 hO48) (by rintro e x ⟨N, S', h0, h⟩; exact ⟨_, h0, N, S', rfl, h⟩)) ?_; clear h55
 rintro _ w57 a56 ⟨N58, S59, rfl, hO60, hx61⟩ h56
 have hr62 := own_butS hr50 hx49.but (Grew.offR hx36 hr32 (fun k hk => by cases hk; exact ho22))
 have hlo64 : ∀ q, S59 q → w.heap.size ≤ q := hx61.lo hlo52 (by omega)
 have hB63 := hbL hB51 hlo52 hx61.but
 have hz65 := hB63.size
 have hz66 := hx61.but.size
 refine pk0 (v := pt N58 0) h56 rfl fun a67 h67 => ?_; clear h56
 refine pl_nil ?_
 refine co_then ?_
 refine co_seq ?_
 refine co_reg ?_
 refine pk0 (v := pt N4 0) h67 rfl fun a68 h68 => ?_; clear h67
 refine pk0 (v := pt N58 0) h68 rfl fun a69 h69 => ?_; clear h68
 refine pw h69 rfl (op_call (args := #[pt N4 0, pt N58 0, .int .i64 0, .int .i64 9]) (R := fun res xw => ∃ S' : Nat → Prop, res = .int .i64 1 ∧ TwS S' xw N4 N58 [enA v33 5] 0 0 (mvF (fun _ => []) 0 5 [opA]) (mvLa 0 5 [opA]) (mvCe 0 5 0 [opA]) 1 ∧ Grew S59 S' w57 xw) rfl rfl rfl (by kernel_rfl) (by kernel_rfl) (Try.call15 _ _) (twFeed1 w57 v33 hO60) (by rintro e x ⟨S', h0, h⟩; exact ⟨_, h0, S', rfl, h⟩)) ?_; clear h69
 rintro _ w71 a70 ⟨S72, rfl, hO73, hx74⟩ h70
 have hr75 := own_butS hr62 hx61.but (Grew.offR hx49 hr50 (Grew.offR hx36 hr32 (fun k hk => by cases hk; exact ho22)))
 have hlo77 : ∀ q, S72 q → w.heap.size ≤ q := hx74.lo hlo64 (by omega)
 have hB76 := hbL hB63 hlo64 hx74.but
 have hz78 := hB76.size
 have hz79 := hx74.but.size
 refine pk0 (v := .int .i64 1) h70 rfl fun a80 h80 => ?_; clear h70
 refine pl_nil ?_
 refine co_then ?_
 refine co_seq ?_
 refine co_reg ?_
 refine pk0 (v := pt N58 0) h80 rfl fun a81 h81 => ?_; clear h80
 refine pw h81 rfl (op_call (args := #[pt N58 0, .string (⟨#[97]⟩), .int .u64 5]) (R := fun res xw => res = .tuple #[.string (⟨#[49]⟩), .bool true] ∧ Below w71.heap.size w71 xw) rfl rfl rfl (by kernel_rfl) (by kernel_rfl) (Try.call28 _ _) (twGet w71 (⟨#[97]⟩) 5 hO73) (by rintro e x ⟨rfl, h⟩; rw [aw_get]; exact ⟨_, rfl, rfl, h⟩)) ?_; clear h81
 rintro _ w83 a82 ⟨rfl, hb84⟩ h82
 have hz85 := hb84.size
 have ho86 := TwS.ofS hO73
 refine pk0 (v := .tuple #[.string (⟨#[49]⟩), .bool true]) h82 rfl fun a87 h87 => ?_; clear h82
 refine pk0 (v := .string (⟨#[49]⟩)) h87 rfl fun a88 h88 => ?_; clear h87
 refine pk0 (v := .bool true) h88 rfl fun a89 h89 => ?_; clear h88
 refine pk0 (v := .string (⟨#[49]⟩)) h89 rfl fun a90 h90 => ?_; clear h89
 refine pk0 (v := .bool true) h90 rfl fun a91 h91 => ?_; clear h90
 refine pl_nil ?_
 refine co_then ?_
 refine co_seq ?_
 refine co_reg ?_
 refine pk0 (v := .int .i64 0) h91 rfl fun a92 h92 => ?_; clear h91
 refine pk0 (v := .bool ((0 : Int) == 0)) h92 rfl fun a93 h93 => ?_; clear h92
 refine pk0 (v := .bool ((0 : Int) == 0)) h93 rfl fun a94 h94 => ?_; clear h93
 have hc95 : ((0 : Int) == 0) = true := by first | (simp; done) | (simp; omega) | exact beq_false_of_ne (by omega) | exact beq_iff_eq.2 (by omega)
 rw [hc95] at h94; clear hc95
 refine pk0 (v := .int .i64 0) h94 rfl fun a96 h96 => ?_; clear h94
 refine pk0 (v := .bool ((0 : Int) == 0)) h96 rfl fun a97 h97 => ?_; clear h96
 refine pk0 (v := .bool ((0 : Int) == 0)) h97 rfl fun a98 h98 => ?_; clear h97
 refine pk0 (v := .bool ((0 : Int) == 0)) h98 rfl fun a99 h99 => ?_; clear h98
 have hc100 : ((0 : Int) == 0) = true := by first | (simp; done) | (simp; omega) | exact beq_false_of_ne (by omega) | exact beq_iff_eq.2 (by omega)
 rw [hc100] at h99; clear hc100
 refine pk0 (v := pt N4 0) h99 rfl fun a101 h101 => ?_; clear h99
 have hB104 := hb_call hB76 hb84
 have hr105 := own_butS hr75 hx74.but (Grew.offR hx61 hr62 (Grew.offR hx49 hr50 (Grew.offR hx36 hr32 (fun k hk => by cases hk; exact ho22))))
 have hr106 := row_kept_new hr105 (below_grown hb84)
 have hO107 := TwS.gr hO73 (below_grown hb84) (fun k e => by cases e)
 refine pw h101 rfl (op_call (args := #[pt N4 0]) (R := fun res xw => ∃ S' : Nat → Prop, res = .int .i64 1 ∧ TwS S' xw N4 N58 [enA v33 5] 0 0 (mvF (fun _ => []) 0 5 [opA]) (mvLa 0 5 [opA]) (mvCe 0 5 0 [opA]) 1 ∧ Grew S72 S' w83 xw) rfl rfl rfl (by kernel_rfl) (by kernel_rfl) (Try.call19 _ _) (twStamped w83 hO107) (by rintro e x ⟨S', h0, h⟩; exact ⟨_, h0, S', rfl, h⟩)) ?_; clear h101
 rintro _ w103 a102 ⟨S108, rfl, hO109, hx110⟩ h102
 have hlo112 : ∀ q, S108 q → w.heap.size ≤ q := hx110.lo hlo77 (by omega)
 have hB111 := hbL hB104 hlo77 hx110.but
 have hz113 := hB111.size
 have hz114 := hx110.but.size
 refine pk0 (v := .bool ((1 : Int) == 1)) h102 rfl fun a115 h115 => ?_; clear h102
 refine pk0 (v := .bool ((1 : Int) == 1)) h115 rfl fun a116 h116 => ?_; clear h115
 refine pk0 (v := .bool ((1 : Int) == 1)) h116 rfl fun a117 h117 => ?_; clear h116
 have hc118 : ((1 : Int) == 1) = true := by first | (simp; done) | (simp; omega) | exact beq_false_of_ne (by omega) | exact beq_iff_eq.2 (by omega)
 rw [hc118] at h117; clear hc118
 refine pk0 (v := .int .i64 1) h117 rfl fun a119 h119 => ?_; clear h117
 refine pk0 (v := .bool ((1 : Int) == 1)) h119 rfl fun a120 h120 => ?_; clear h119
 refine pk0 (v := .bool ((1 : Int) == 1)) h120 rfl fun a121 h121 => ?_; clear h120
 refine pk0 (v := .bool ((1 : Int) == 1)) h121 rfl fun a122 h122 => ?_; clear h121
 have hc123 : ((1 : Int) == 1) = true := by first | (simp; done) | (simp; omega) | exact beq_false_of_ne (by omega) | exact beq_iff_eq.2 (by omega)
 rw [hc123] at h122; clear hc123
 refine pk0 (v := .string (⟨#[49]⟩)) h122 rfl fun a124 h124 => ?_; clear h122
 refine pk0 (v := .bool ((⟨#[49]⟩ : ByteArray).toList == (⟨#[49]⟩ : ByteArray).toList)) h124 rfl fun a125 h125 => ?_; clear h124
 refine pk0 (v := .bool ((⟨#[49]⟩ : ByteArray).toList == (⟨#[49]⟩ : ByteArray).toList)) h125 rfl fun a126 h126 => ?_; clear h125
 refine pk0 (v := .bool ((⟨#[49]⟩ : ByteArray).toList == (⟨#[49]⟩ : ByteArray).toList)) h126 rfl fun a127 h127 => ?_; clear h126
 have hc128 : ((⟨#[49]⟩ : ByteArray).toList == (⟨#[49]⟩ : ByteArray).toList) = true := by first | (simp; done) | (simp; omega) | exact beq_false_of_ne (by omega) | exact beq_iff_eq.2 (by omega)
 rw [hc128] at h127; clear hc128
 refine pk0 (v := .bool true) h127 rfl fun a129 h129 => ?_; clear h127
 refine pk0 (v := .bool true) h129 rfl fun a130 h130 => ?_; clear h129
 refine pk0 (v := .bool true) h130 rfl fun a131 h131 => ?_; clear h130
 refine pk0 (v := pt N4 0) h131 rfl fun a132 h132 => ?_; clear h131
 refine pk0 (v := .agg #[.int .i64 5, .int .i64 0, .int .u64 0, .int .i64 0, .slice none 0 0, .int .u64 0, .slice none 0 0, .int .i64 0, .int .i64 0, .slice none 0 0, .int .u64 0, .int .i64 0, .int .u64 0, .int .i64 0, .int .i64 0, .int .i64 0, .int .i64 0, .int .i64 0]) h132 rfl fun a133 h133 => ?_; clear h132
 have ho136 := TwS.ofS hO109
 refine pw h133 rfl (op_call (args := #[pt N4 0, .agg #[.int .i64 5, .int .i64 0, .int .u64 0, .int .i64 0, .slice none 0 0, .int .u64 0, .slice none 0 0, .int .i64 0, .int .i64 0, .slice none 0 0, .int .u64 0, .int .i64 0, .int .u64 0, .int .i64 0, .int .i64 0, .int .i64 0, .int .i64 0, .int .i64 0]]) (R := fun res xw => ∃ S' : Nat → Prop, res = .int .i64 11 ∧ TwS S' xw N4 N58 [enA v33 5] 0 0 (mvF (fun _ => []) 0 5 [opA]) (mvLa 0 5 [opA]) (mvCe 0 5 0 [opA]) 1 ∧ Grew S108 S' w103 xw) rfl rfl rfl (by kernel_rfl) (by kernel_rfl) (Try.call11 _ _) (awAp3 w103 v33 hO109) (by rintro e x ⟨S', h0, h⟩; exact ⟨_, h0, S', rfl, h⟩)) ?_; clear h133
 rintro _ w135 a134 ⟨S137, rfl, hO138, hx139⟩ h134
 have hr140 := own_butS hr106 hx110.but (Grew.offR hx74 hr75 (Grew.offR hx61 hr62 (Grew.offR hx49 hr50 (Grew.offR hx36 hr32 (fun k hk => by cases hk; exact ho22)))))
 have hlo142 : ∀ q, S137 q → w.heap.size ≤ q := hx139.lo hlo112 (by omega)
 have hB141 := hbL hB111 hlo112 hx139.but
 have hz143 := hB141.size
 have hz144 := hx139.but.size
 refine pk0 (v := .bool ((11 : Int) == 11)) h134 rfl fun a145 h145 => ?_; clear h134
 refine pk0 (v := .bool ((11 : Int) == 11)) h145 rfl fun a146 h146 => ?_; clear h145
 refine pk0 (v := .bool ((11 : Int) == 11)) h146 rfl fun a147 h147 => ?_; clear h146
 refine pl_nil ?_
 refine co_then ?_
 refine wp_ret ?_
 refine co_ret1 h147 rfl rfl ?_
 exact ⟨rfl, hB141⟩
end Go.Proofs.Ytkjnhghniopnoaa

/- Configurations and members that came in by value, opened. Conditions: none. -/
namespace Go.Proofs.Ytkjnhghniopnoaa
open Go.RowKit Go.ChangeShapes Go.WideShapes Go.Deep
section
variable {H : Type} {enc : TypeId × Value → H} {w : World} {base : Nat} {spare : Nat → Bool} {held : Bool}
set_option maxRecDepth 10000 in
theorem elem_mem (n : Nat) (cs : List Value) (x : DataW H × List MemPlace) (h : DataW.trod enc Try.prog w base spare held n 117 cs = some x) : ∃ p, cs = memE p ∧ memOk p := by
  obtain ⟨hl, m, hf⟩ := trod_fields Try.underlying117 (by kernel_rfl) (by kernel_rfl) h
  have hl2 : cs.length = 2 := hl
  clear hl
  match cs, hl2 with
  | [c0, c1], _ =>
    obtain ⟨_, y0, e0, h0⟩ := hf 0 _ rfl
    obtain ⟨_, y1, e1, h1⟩ := hf 1 _ rfl
    cases e0; cases e1
    obtain ⟨a, e0, _, w0⟩ := DataW.trod_int Try.underlying3 h0
    obtain ⟨b, e1, _, w1⟩ := DataW.trod_int Try.underlying3 h1
    simp only [List.cons.injEq, and_true] at e0 e1
    subst e0 e1
    exact ⟨(a, b), rfl, wf_i64 w0, wf_i64 w1⟩
theorem open_mems {fuel : Nat} {cs : List Value} {x : DataW H × List MemPlace} (h : DataW.trod enc Try.prog w base spare held fuel 29 cs = some x) :
    ∃ (l : List MemT) (v : Value), cs = [v] ∧ SliceOf memE 2 w v l ∧ ∀ p ∈ l, memOk p :=
  open_rows memE 2 memOk Try.underlying29 (by kernel_rfl) (by omega) elem_mem h
set_option maxRecDepth 10000 in
theorem elem_conf (n : Nat) (cs : List Value) (x : DataW H × List MemPlace) (h : DataW.trod enc Try.prog w base spare held n 31 cs = some x) : ∃ c : ConfT, cs = confE c ∧ ConfOk w c := by
  obtain ⟨hl, m, hf⟩ := trod_fields Try.underlying31 (by kernel_rfl) (by kernel_rfl) h
  have hl3 : cs.length = 3 := hl
  clear hl
  match cs, hl3 with
  | [c0, c1, c2], _ =>
    obtain ⟨_, y0, e0, h0⟩ := hf 0 _ rfl
    obtain ⟨_, y1, e1, h1⟩ := hf 1 _ rfl
    obtain ⟨_, y2, e2, h2⟩ := hf 2 _ rfl
    cases e0; cases e1; cases e2
    obtain ⟨a, e0, _, w0⟩ := DataW.trod_int Try.underlying3 h0
    obtain ⟨l, v, e1, hs, hall⟩ := open_mems h1
    obtain ⟨b, e2, _, w2⟩ := DataW.trod_int Try.underlying27 h2
    simp only [List.cons.injEq, and_true] at e0 e1 e2
    subst e0 e1 e2
    have k0 := wf_i64 w0; have k2 := wf_u64 w2
    exact ⟨⟨a, c1, l, b⟩, rfl, ⟨hs, hall, k0.1, k0.2, k2.1, k2.2⟩⟩
end
end Go.Proofs.Ytkjnhghniopnoaa

/- Notes that came in by value, opened. Conditions: none. -/
namespace Go.Proofs.Ytkjnhghniopnoaa
open Go.RowKit Go.ChangeShapes Go.WideShapes Go.Deep
structure NoteX where
  d : NoteD
  mv : Value
  lv : Value
  ev : Value
def noteE (x : NoteX) : List Value := [.int .i64 x.d.k, .int .i64 x.d.n, .int .u64 x.d.t, .int .i64 x.d.ep, x.mv, .int .u64 x.d.fl, x.lv, .int .i64 x.d.ec, .int .i64 x.d.er, x.ev, .int .u64 x.d.ets, .int .i64 x.d.pid, .int .u64 x.d.pat, .int .i64 x.d.plf, .int .i64 x.d.sc, .int .i64 x.d.sr, .int .i64 x.d.se, .int .i64 x.d.sp]
def noteV (x : NoteX) : Value := .agg #[.int .i64 x.d.k, .int .i64 x.d.n, .int .u64 x.d.t, .int .i64 x.d.ep, x.mv, .int .u64 x.d.fl, x.lv, .int .i64 x.d.ec, .int .i64 x.d.er, x.ev, .int .u64 x.d.ets, .int .i64 x.d.pid, .int .u64 x.d.pat, .int .i64 x.d.plf, .int .i64 x.d.sc, .int .i64 x.d.sr, .int .i64 x.d.se, .int .i64 x.d.sp]
structure NoteOk (w : World) (x : NoteX) : Prop where
  hm : SliceOf memE 2 w x.mv x.d.ms
  hg : SliceOf (intE .i64) 1 w x.lv x.d.lg
  he : SliceOf opE 3 w x.ev x.d.el
  hR : NoteR x.d
section
variable {H : Type} {enc : TypeId × Value → H} {w : World} {base : Nat} {spare : Nat → Bool} {held : Bool}
theorem open_i64s {fuel : Nat} {cs : List Value} {x : DataW H × List MemPlace} (h : DataW.trod enc Try.prog w base spare held fuel 35 cs = some x) :
    ∃ (l : List Int) (v : Value), cs = [v] ∧ SliceOf (intE .i64) 1 w v l ∧ ∀ n ∈ l, (Lit.int .i64 n).wf = true :=
  open_rows (intE .i64) 1 _ Try.underlying35 (by kernel_rfl) (by omega) (fun n cs x h => by
    obtain ⟨a, e, _, hw⟩ := DataW.trod_int Try.underlying3 h
    exact ⟨a, e, hw⟩) h
set_option maxRecDepth 10000 in
theorem elem_note (n : Nat) (cs : List Value) (x : DataW H × List MemPlace) (h : DataW.trod enc Try.prog w base spare held n 46 cs = some x) : ∃ y : NoteX, cs = noteE y ∧ NoteOk w y := by
  obtain ⟨xs, m, _, _, hl, hxl, hf⟩ := DataW.trod_struct Try.underlying46 h
  have hl18 : cs.length = 18 := hl
  have hx8 : xs.length = 8 := hxl
  clear hl hxl
  match cs, hl18, xs, hx8 with
  | [c0, c1, c2, c3, c4, c5, c6, c7, c8, c9, c10, c11, c12, c13, c14, c15, c16, c17], _, [x0, x1, x2, x3, x4, x5, x6, x7], _ =>
    have h0 : DataW.trod enc Try.prog w base spare held m 3 [c0] = some x0 := hf 0 _ rfl
    have h1 : DataW.trod enc Try.prog w base spare held m 3 [c1] = some x1 := hf 1 _ rfl
    have h2 : DataW.trod enc Try.prog w base spare held m 27 [c2] = some x2 := hf 2 _ rfl
    have h3 : DataW.trod enc Try.prog w base spare held m 31 [c3, c4, c5] = some x3 := hf 3 _ rfl
    have h4 : DataW.trod enc Try.prog w base spare held m 35 [c6] = some x4 := hf 4 _ rfl
    have h5 : DataW.trod enc Try.prog w base spare held m 40 [c7, c8, c9, c10] = some x5 := hf 5 _ rfl
    have h6 : DataW.trod enc Try.prog w base spare held m 42 [c11, c12, c13] = some x6 := hf 6 _ rfl
    have h7 : DataW.trod enc Try.prog w base spare held m 44 [c14, c15, c16, c17] = some x7 := hf 7 _ rfl
    clear hf h
    obtain ⟨k, e0, _, _⟩ := DataW.trod_int Try.underlying3 h0
    obtain ⟨nn, e1, _, _⟩ := DataW.trod_int Try.underlying3 h1
    obtain ⟨t, e2, _, w2⟩ := DataW.trod_int Try.underlying27 h2
    obtain ⟨c, e3, hc⟩ := elem_conf _ _ _ h3
    obtain ⟨lg, lv, e4, hg, _⟩ := open_i64s h4
    obtain ⟨ys, m5, _, _, _, hyl, hf5⟩ := DataW.trod_struct Try.underlying40 h5
    have hy2 : ys.length = 2 := hyl
    clear hyl h5
    match ys, hy2 with
    | [y0, y1], _ =>
      have b0 : DataW.trod enc Try.prog w base spare held m5 38 [c7, c8, c9] = some y0 := hf5 0 _ rfl
      have b1 : DataW.trod enc Try.prog w base spare held m5 27 [c10] = some y1 := hf5 1 _ rfl
      clear hf5
      obtain ⟨ets, e10, _, w10⟩ := DataW.trod_int Try.underlying27 b1
      obtain ⟨_, m6, hf6⟩ := trod_fields Try.underlying38 (by kernel_rfl) (by kernel_rfl) b0
      obtain ⟨_, z0, f0, g0⟩ := hf6 0 _ rfl
      obtain ⟨_, z1, f1, g1⟩ := hf6 1 _ rfl
      obtain ⟨_, z2, f2, g2⟩ := hf6 2 _ rfl
      cases f0; cases f1; cases f2
      obtain ⟨ec, e7, _, _⟩ := DataW.trod_int Try.underlying3 g0
      obtain ⟨er, e8, _, _⟩ := DataW.trod_int Try.underlying3 g1
      obtain ⟨el, ev, e9, he, _⟩ := open_opsS g2
      obtain ⟨_, m7, hf7⟩ := trod_fields Try.underlying42 (by kernel_rfl) (by kernel_rfl) h6
      obtain ⟨_, z3, f3, g3⟩ := hf7 0 _ rfl
      obtain ⟨_, z4, f4, g4⟩ := hf7 1 _ rfl
      obtain ⟨_, z5, f5, g5⟩ := hf7 2 _ rfl
      cases f3; cases f4; cases f5
      obtain ⟨pid, e11, _, _⟩ := DataW.trod_int Try.underlying3 g3
      obtain ⟨pat, e12, _, w12⟩ := DataW.trod_int Try.underlying27 g4
      obtain ⟨plf, e13, _, _⟩ := DataW.trod_int Try.underlying3 g5
      obtain ⟨_, m8, hf8⟩ := trod_fields Try.underlying44 (by kernel_rfl) (by kernel_rfl) h7
      obtain ⟨_, z6, f6, g6⟩ := hf8 0 _ rfl
      obtain ⟨_, z7, f7, g7⟩ := hf8 1 _ rfl
      obtain ⟨_, z8, f8, g8⟩ := hf8 2 _ rfl
      obtain ⟨_, z9, f9, g9⟩ := hf8 3 _ rfl
      cases f6; cases f7; cases f8; cases f9
      obtain ⟨sc, e14, _, _⟩ := DataW.trod_int Try.underlying3 g6
      obtain ⟨sr, e15, _, _⟩ := DataW.trod_int Try.underlying3 g7
      obtain ⟨se, e16, _, _⟩ := DataW.trod_int Try.underlying33 g8
      obtain ⟨sp, e17, _, _⟩ := DataW.trod_int Try.underlying3 g9
      clear h0 h1 h2 h3 h4 h6 h7 hf6 hf7 hf8 g0 g1 g2 g3 g4 g5 g6 g7 g8 g9 b0 b1
      simp only [confE, List.cons.injEq, and_true] at e0 e1 e2 e3 e4 e7 e8 e9 e10 e11 e12 e13 e14 e15 e16 e17
      obtain ⟨rfl, rfl, rfl⟩ := e3
      subst e0 e1 e2 e4 e7 e8 e9 e10 e11 e12 e13 e14 e15 e16 e17
      exact ⟨⟨⟨k, nn, t, c.ep, c.ms, c.fl, lg, ec, er, el, ets, pid, pat, plf, sc, sr, se, sp⟩, c.mv, _, _⟩, rfl, ⟨hc.ms, hg, he, ⟨hc.each, ⟨hc.e0, hc.e1⟩, ⟨hc.f0, hc.f1⟩, wf_u64 w2, wf_u64 w10, wf_u64 w12⟩⟩⟩
end
set_option maxRecDepth 100000 in
theorem open_note {H : Type} {enc : TypeId × Value → H} {w W0 : World} {base b0 : Nat} {spare : Nat → Bool} {held : Bool} {r : Reach} {v : Value} {n : Nat} {x : DataW H × List MemPlace}
    (hv : Value.okWide Try.prog w r b0 46 v) (h : DataW.trod enc Try.prog W0 base spare held n 46 v.cells.toList = some x) :
    ∃ y : NoteX, v = noteV y ∧ NoteOk W0 y := by
  obtain ⟨cs, rfl, hsz⟩ := okWide_struct Try.underlying46 hv
  obtain ⟨y, hy, hok⟩ := elem_note _ _ _ h
  refine ⟨y, ?_, hok⟩
  obtain ⟨cl⟩ := cs
  have hy' : cl = noteE y := hy
  subst hy'; rfl
end Go.Proofs.Ytkjnhghniopnoaa

/- catenalaw30: RstateZero. Conditions: none. -/
namespace Go.Proofs.Ytkjnhghniopnoaa
open Go.RowKit Go.PlainAid
set_option linter.unusedVariables false
set_option linter.unusedSimpArgs false

set_option maxRecDepth 100000 in
set_option maxHeartbeats 3200000 in
theorem rstateZero_any (d : NoteD) (mv : Value) (lv : Value) (ev : Value) (w : World) (hm : SliceOf memE 2 w mv d.ms) (hg : SliceOf (intE .i64) 1 w lv d.lg) (he : SliceOf opE 3 w ev d.el) :
    Calls Try.prog 5 #[.agg #[.int .i64 d.k, .int .i64 d.n, .int .u64 d.t, .int .i64 d.ep, mv, .int .u64 d.fl, lv, .int .i64 d.ec, .int .i64 d.er, ev, .int .u64 d.ets, .int .i64 d.pid, .int .u64 d.pat, .int .i64 d.plf, .int .i64 d.sc, .int .i64 d.sr, .int .i64 d.se, .int .i64 d.sp]] w fun e w' => e = .returned (.bool true) ∧ Below w.heap.size w w' := by
 have hB0 := Below.refl w.heap.size w
 have hl_hm := sl_len hm
 have hl_hg := sl_len hg
 have hl_he := sl_len he
 refine co_enter (n := 84) Try.func5 rfl rfl rfl [(0, .agg #[.int .i64 d.k, .int .i64 d.n, .int .u64 d.t, .int .i64 d.ep, mv, .int .u64 d.fl, lv, .int .i64 d.ec, .int .i64 d.er, ev, .int .u64 d.ets, .int .i64 d.pid, .int .u64 d.pat, .int .i64 d.plf, .int .i64 d.sc, .int .i64 d.sr, .int .i64 d.se, .int .i64 d.sp])] rfl (fun a h0 => ?_)
 refine co_seq ?_
 refine co_reg ?_
 refine pw h0 rfl (op_new (v := fun N => pt N 0) (T := 46) (cs := #[.int .i64 d.k, .int .i64 d.n, .int .u64 d.t, .int .i64 d.ep, mv, .int .u64 d.fl, lv, .int .i64 d.ec, .int .i64 d.er, ev, .int .u64 d.ets, .int .i64 d.pid, .int .u64 d.pat, .int .i64 d.plf, .int .i64 d.sc, .int .i64 d.sr, .int .i64 d.se, .int .i64 d.sp]) (by kernel_rfl) (by kernel_rfl) (by kernel_rfl)) ?_; clear h0
 rintro _ w2 a1 ⟨N3, rfl, hN6, hz7, hk5, hg4⟩ h1
 have hz8 := hg4.size
 try dsimp only at h1
 refine pk0 (v := .bool false) h1 rfl fun a9 h9 => ?_; clear h1
 refine pl_nil ?_
 refine co_then ?_
 refine co_seq ?_
 refine co_seq ?_
 refine co_reg ?_
 refine pk (v := .agg #[.int .i64 d.k, .int .i64 d.n, .int .u64 d.t, .int .i64 d.ep, mv, .int .u64 d.fl, lv, .int .i64 d.ec, .int .i64 d.er, ev, .int .u64 d.ets, .int .i64 d.pid, .int .u64 d.pat, .int .i64 d.plf, .int .i64 d.sc, .int .i64 d.sr, .int .i64 d.se, .int .i64 d.sp]) h9 rfl (rn_loadN rfl rfl Try.underlying46 rfl (by kernel_rfl) hk5.all) fun a10 h10 => ?_; clear h9
 refine pw h10 rfl (op_new (v := fun N => .slice (some ⟨N, 0, none⟩) 1 1) (T := 46) (cs := #[.int .i64 d.k, .int .i64 d.n, .int .u64 d.t, .int .i64 d.ep, mv, .int .u64 d.fl, lv, .int .i64 d.ec, .int .i64 d.er, ev, .int .u64 d.ets, .int .i64 d.pid, .int .u64 d.pat, .int .i64 d.plf, .int .i64 d.sc, .int .i64 d.sr, .int .i64 d.se, .int .i64 d.sp]) (by kernel_rfl) (by kernel_rfl) (by kernel_rfl)) ?_; clear h10
 rintro _ w12 a11 ⟨N13, rfl, hN16, hz17, hk15, hg14⟩ h11
 have hz18 := hg14.size
 try dsimp only at h11
 have hB21 := hb_new hB0 hg4
 have hB22 := hb_new hB21 hg14
 refine pw h11 rfl (op_call (args := #[.slice (some ⟨N13, 0, none⟩) 1 1]) (R := fun res xw => ∃ r : Int, res = .int .i64 r ∧ Below w12.heap.size w12 xw) rfl rfl rfl (by kernel_rfl) (by kernel_rfl) (Try.call6 _ _) (parts1_any N13 d mv lv ev w12 hk15 (hm.below hB22) (hg.below hB22) (he.below hB22)) (by rintro e x ⟨r, rfl, hb24⟩; exact ⟨_, rfl, ⟨r, rfl, hb24⟩⟩)) ?_; clear h11
 rintro _ w20 a19 ⟨r23, rfl, hb24⟩ h19
 have hz25 := hb24.size
 refine pk0 (v := .bool (decide (r23 > 20))) h19 rfl fun a26 h26 => ?_; clear h19
 refine pl_nil ?_
 refine co_then ?_
 have hB28 := hb_call hB22 hb24
 have hk29 := hk5.kept hg14 (by simp)
 have hk30 := hk29.below hb24
 cases hc27 : (decide (r23 > 20))
 ·
  rw [hc27] at h26
  have hp31 : ¬ (r23 > 20) := of_decide_eq_false hc27
  clear hc27
  refine co_false h26 rfl ?_
  refine wp_skip ?_
  refine co_then ?_
  refine co_seq ?_
  refine co_reg ?_
  refine pk0 (v := .pointer none) h26 rfl fun a32 h32 => ?_; clear h26
  refine pl_nil ?_
  refine co_then ?_
  refine co_seq ?_
  refine co_reg ?_
  refine pw h32 rfl (op_new (v := fun N => pt N 0) (T := 68) (cs := #[.pointer none]) (by kernel_rfl) (by kernel_rfl) (by kernel_rfl)) ?_; clear h32
  rintro _ w34 a33 ⟨N35, rfl, hN38, hz39, hk37, hg36⟩ h33
  have hz40 := hg36.size
  try dsimp only at h33
  refine pl_nil ?_
  refine co_then ?_
  refine co_seq ?_
  simp only [List.append_eq, List.cons_append, List.nil_append]
  refine dr_gen (fun x => Below w.heap.size w x ∧ Blk x N3 46 #[.int .i64 d.k, .int .i64 d.n, .int .u64 d.t, .int .i64 d.ep, mv, .int .u64 d.fl, lv, .int .i64 d.ec, .int .i64 d.er, ev, .int .u64 d.ets, .int .i64 d.pid, .int .u64 d.pat, .int .i64 d.plf, .int .i64 d.sc, .int .i64 d.sr, .int .i64 d.se, .int .i64 d.sp]) (by kernel_rfl) (fun w41 hg42 => ?_) (fun w41 hg42 => ?_)
  ·
   have hz43 := hg42.size
   have hB44 := hb_new hB28 hg36
   have hB45 := hb_new hB44 hg42
   have hk46 := hk30.kept hg36 (by simp)
   have hk47 := hk46.kept hg42 (by simp)
   exact ⟨hB45, hk47⟩
  have hz48 := hg42.size
  have hB49 := hb_new hB28 hg36
  have hB50 := hb_new hB49 hg42
  have hk51 := hk30.kept hg36 (by simp)
  have hk52 := hk51.kept hg42 (by simp)
  refine dk0 0 (v := .pointer none) h33 rfl rfl ⟨hB50, hk52⟩ fun a53 h53 => ?_; clear h33
  refine dk 1 (v := .agg #[.int .i64 d.k, .int .i64 d.n, .int .u64 d.t, .int .i64 d.ep, mv, .int .u64 d.fl, lv, .int .i64 d.ec, .int .i64 d.er, ev, .int .u64 d.ets, .int .i64 d.pid, .int .u64 d.pat, .int .i64 d.plf, .int .i64 d.sc, .int .i64 d.sr, .int .i64 d.se, .int .i64 d.sp]) h53 rfl rfl ⟨hB50, hk52⟩ (fun x hx => (rn_loadN rfl rfl Try.underlying46 rfl (by kernel_rfl) hx.2.all)) fun a54 h54 => ?_; clear h53
  refine d1 2 h54 rfl rfl (op_call (args := #[.pointer none, .agg #[.int .i64 d.k, .int .i64 d.n, .int .u64 d.t, .int .i64 d.ep, mv, .int .u64 d.fl, lv, .int .i64 d.ec, .int .i64 d.er, ev, .int .u64 d.ets, .int .i64 d.pid, .int .u64 d.pat, .int .i64 d.plf, .int .i64 d.sc, .int .i64 d.sr, .int .i64 d.se, .int .i64 d.sp]]) (R := fun res xw => res = .int .i64 8 ∧ Below w41.heap.size w41 xw) rfl rfl rfl (by kernel_rfl) (by kernel_rfl) (Try.call11 _ _) (rsApplyN d mv lv ev w41 (hm.below hB50) (hg.below hB50) (he.below hB50)) (by rintro e x ⟨rfl, hb57⟩; exact ⟨_, rfl, ⟨rfl, hb57⟩⟩)) ?_ ?_; clear h54
  ·
   rintro _ w56 ⟨rfl, hb57⟩
   have hz58 := hb57.size
   have hB59 := hb_call hB50 hb57
   have hk60 := hk52.below hb57
   exact ⟨hB59, hk60⟩
  rintro _ w56 a55 ⟨rfl, hb57⟩ h55
  have hz58 := hb57.size
  have hB59 := hb_call hB50 hb57
  have hk60 := hk52.below hb57
  refine dk0 3 (v := .bool ((8 : Int) == 8)) h55 rfl rfl ⟨hB59, hk60⟩ fun a61 h61 => ?_; clear h55
  refine dk0 4 (v := .bool ((8 : Int) == 8)) h61 rfl rfl ⟨hB59, hk60⟩ fun a62 h62 => ?_; clear h61
  have hc63 : ((8 : Int) == 8) = true := by first | (simp; done) | (simp; omega) | exact beq_false_of_ne (by omega) | exact beq_iff_eq.2 (by omega)
  rw [hc63] at h62; clear hc63
  refine dk 5 (v := .agg #[.int .i64 d.k, .int .i64 d.n, .int .u64 d.t, .int .i64 d.ep, mv, .int .u64 d.fl, lv, .int .i64 d.ec, .int .i64 d.er, ev, .int .u64 d.ets, .int .i64 d.pid, .int .u64 d.pat, .int .i64 d.plf, .int .i64 d.sc, .int .i64 d.sr, .int .i64 d.se, .int .i64 d.sp]) h62 rfl rfl ⟨hB59, hk60⟩ (fun x hx => (rn_loadN rfl rfl Try.underlying46 rfl (by kernel_rfl) hx.2.all)) fun a64 h64 => ?_; clear h62
  have hk67 := hk37.kept hg42 (by simp)
  have hk68 := hk67.below hb57
  refine d1 6 h64 rfl rfl (op_call (args := #[pt N35 0, .agg #[.int .i64 d.k, .int .i64 d.n, .int .u64 d.t, .int .i64 d.ep, mv, .int .u64 d.fl, lv, .int .i64 d.ec, .int .i64 d.er, ev, .int .u64 d.ets, .int .i64 d.pid, .int .u64 d.pat, .int .i64 d.plf, .int .i64 d.sc, .int .i64 d.sr, .int .i64 d.se, .int .i64 d.sp]]) (R := fun res xw => res = .int .i64 8 ∧ Below w56.heap.size w56 xw) rfl rfl rfl (by kernel_rfl) (by kernel_rfl) (Try.call11 _ _) (rsApplyF N35 d mv lv ev w56 hk68 (hm.below hB59) (hg.below hB59) (he.below hB59)) (by rintro e x ⟨rfl, hb69⟩; exact ⟨_, rfl, ⟨rfl, hb69⟩⟩)) ?_ ?_; clear h64
  ·
   rintro _ w66 ⟨rfl, hb69⟩
   have hz70 := hb69.size
   have hB71 := hb_call hB59 hb69
   have hk72 := hk60.below hb69
   exact ⟨hB71, hk72⟩
  rintro _ w66 a65 ⟨rfl, hb69⟩ h65
  have hz70 := hb69.size
  have hB71 := hb_call hB59 hb69
  have hk72 := hk60.below hb69
  refine dk0 7 (v := .bool ((8 : Int) == 8)) h65 rfl rfl ⟨hB71, hk72⟩ fun a73 h73 => ?_; clear h65
  refine dk0 8 (v := .bool ((8 : Int) == 8)) h73 rfl rfl ⟨hB71, hk72⟩ fun a74 h74 => ?_; clear h73
  refine dk0 9 (v := .bool ((8 : Int) == 8)) h74 rfl rfl ⟨hB71, hk72⟩ fun a75 h75 => ?_; clear h74
  have hc76 : ((8 : Int) == 8) = true := by first | (simp; done) | (simp; omega) | exact beq_false_of_ne (by omega) | exact beq_iff_eq.2 (by omega)
  rw [hc76] at h75; clear hc76
  refine dk0 10 (v := .pointer none) h75 rfl rfl ⟨hB71, hk72⟩ fun a77 h77 => ?_; clear h75
  refine dk0 16 (v := .pointer none) h77 rfl rfl ⟨hB71, hk72⟩ fun a78 h78 => ?_; clear h77
  refine dk0 23 (v := .pointer none) h78 rfl rfl ⟨hB71, hk72⟩ fun a79 h79 => ?_; clear h78
  refine dk0 28 (v := .pointer none) h79 rfl rfl ⟨hB71, hk72⟩ fun a80 h80 => ?_; clear h79
  refine dk0 33 (v := .pointer none) h80 rfl rfl ⟨hB71, hk72⟩ fun a81 h81 => ?_; clear h80
  refine dk0 34 (v := pt N3 1) h81 rfl rfl ⟨hB71, hk72⟩ fun a82 h82 => ?_; clear h81
  refine dk 35 (v := .int .i64 d.n) h82 rfl rfl ⟨hB71, hk72⟩ (fun x hx => (rn_load1 rfl rfl Try.isAgg3 (hx.2.cell rfl))) fun a83 h83 => ?_; clear h82
  refine dk0 38 (v := pt N3 1) h83 rfl rfl ⟨hB71, hk72⟩ fun a84 h84 => ?_; clear h83
  refine dk 39 (v := .int .i64 d.n) h84 rfl rfl ⟨hB71, hk72⟩ (fun x hx => (rn_load1 rfl rfl Try.isAgg3 (hx.2.cell rfl))) fun a85 h85 => ?_; clear h84
  refine dk0 42 (v := .pointer none) h85 rfl rfl ⟨hB71, hk72⟩ fun a86 h86 => ?_; clear h85
  refine dk0 49 (v := .pointer none) h86 rfl rfl ⟨hB71, hk72⟩ fun a87 h87 => ?_; clear h86
  refine d1 11 h87 rfl rfl (op_call (args := #[.pointer none]) (R := fun res xw => res = .slice none 0 0 ∧ Below w66.heap.size w66 xw) rfl rfl rfl (by kernel_rfl) (by kernel_rfl) (Try.call24 _ _) (rsNotesN  w66 ) (by rintro e x ⟨rfl, hb90⟩; exact ⟨_, rfl, ⟨rfl, hb90⟩⟩)) ?_ ?_; clear h87
  ·
   rintro _ w89 ⟨rfl, hb90⟩
   have hz91 := hb90.size
   have hB92 := hb_call hB71 hb90
   have hk93 := hk72.below hb90
   exact ⟨hB92, hk93⟩
  rintro _ w89 a88 ⟨rfl, hb90⟩ h88
  have hz91 := hb90.size
  have hB92 := hb_call hB71 hb90
  have hk93 := hk72.below hb90
  refine dk0 12 (v := .int .i64 0) h88 rfl rfl ⟨hB92, hk93⟩ fun a94 h94 => ?_; clear h88
  have hk97 := hk68.below hb69
  have hk98 := hk97.below hb90
  refine d1 13 h94 rfl rfl (op_call (args := #[pt N35 0]) (R := fun res xw => res = .slice none 0 0 ∧ Below w89.heap.size w89 xw) rfl rfl rfl (by kernel_rfl) (by kernel_rfl) (Try.call24 _ _) (rsNotesF N35 w89 hk98) (by rintro e x ⟨rfl, hb99⟩; exact ⟨_, rfl, ⟨rfl, hb99⟩⟩)) ?_ ?_; clear h94
  ·
   rintro _ w96 ⟨rfl, hb99⟩
   have hz100 := hb99.size
   have hB101 := hb_call hB92 hb99
   have hk102 := hk93.below hb99
   exact ⟨hB101, hk102⟩
  rintro _ w96 a95 ⟨rfl, hb99⟩ h95
  have hz100 := hb99.size
  have hB101 := hb_call hB92 hb99
  have hk102 := hk93.below hb99
  refine dk0 14 (v := .int .i64 0) h95 rfl rfl ⟨hB101, hk102⟩ fun a103 h103 => ?_; clear h95
  refine dk0 15 (v := .int .i64 0) h103 rfl rfl ⟨hB101, hk102⟩ fun a104 h104 => ?_; clear h103
  refine d1 17 h104 rfl rfl (op_call (args := #[.pointer none]) (R := fun res xw => res = .slice none 0 0 ∧ Below w96.heap.size w96 xw) rfl rfl rfl (by kernel_rfl) (by kernel_rfl) (Try.call13 _ _) (rsAllN  w96 ) (by rintro e x ⟨rfl, hb107⟩; exact ⟨_, rfl, ⟨rfl, hb107⟩⟩)) ?_ ?_; clear h104
  ·
   rintro _ w106 ⟨rfl, hb107⟩
   have hz108 := hb107.size
   have hB109 := hb_call hB101 hb107
   have hk110 := hk102.below hb107
   exact ⟨hB109, hk110⟩
  rintro _ w106 a105 ⟨rfl, hb107⟩ h105
  have hz108 := hb107.size
  have hB109 := hb_call hB101 hb107
  have hk110 := hk102.below hb107
  refine dk0 18 (v := .int .i64 0) h105 rfl rfl ⟨hB109, hk110⟩ fun a111 h111 => ?_; clear h105
  refine dk0 19 (v := .int .i64 0) h111 rfl rfl ⟨hB109, hk110⟩ fun a112 h112 => ?_; clear h111
  have hk115 := hk98.below hb99
  have hk116 := hk115.below hb107
  refine d1 20 h112 rfl rfl (op_call (args := #[pt N35 0]) (R := fun res xw => res = .slice none 0 0 ∧ Below w106.heap.size w106 xw) rfl rfl rfl (by kernel_rfl) (by kernel_rfl) (Try.call13 _ _) (rsAllF N35 w106 hk116) (by rintro e x ⟨rfl, hb117⟩; exact ⟨_, rfl, ⟨rfl, hb117⟩⟩)) ?_ ?_; clear h112
  ·
   rintro _ w114 ⟨rfl, hb117⟩
   have hz118 := hb117.size
   have hB119 := hb_call hB109 hb117
   have hk120 := hk110.below hb117
   exact ⟨hB119, hk120⟩
  rintro _ w114 a113 ⟨rfl, hb117⟩ h113
  have hz118 := hb117.size
  have hB119 := hb_call hB109 hb117
  have hk120 := hk110.below hb117
  refine dk0 21 (v := .int .i64 0) h113 rfl rfl ⟨hB119, hk120⟩ fun a121 h121 => ?_; clear h113
  refine dk0 22 (v := .int .i64 0) h121 rfl rfl ⟨hB119, hk120⟩ fun a122 h122 => ?_; clear h121
  refine d1 24 h122 rfl rfl (op_call (args := #[.pointer none]) (R := fun res xw => res = .int .i64 0 ∧ Below w114.heap.size w114 xw) rfl rfl rfl (by kernel_rfl) (by kernel_rfl) (Try.call25 _ _) (rsLenN  w114 ) (by rintro e x ⟨rfl, hb125⟩; exact ⟨_, rfl, ⟨rfl, hb125⟩⟩)) ?_ ?_; clear h122
  ·
   rintro _ w124 ⟨rfl, hb125⟩
   have hz126 := hb125.size
   have hB127 := hb_call hB119 hb125
   have hk128 := hk120.below hb125
   exact ⟨hB127, hk128⟩
  rintro _ w124 a123 ⟨rfl, hb125⟩ h123
  have hz126 := hb125.size
  have hB127 := hb_call hB119 hb125
  have hk128 := hk120.below hb125
  refine dk0 25 (v := .int .i64 0) h123 rfl rfl ⟨hB127, hk128⟩ fun a129 h129 => ?_; clear h123
  have hk132 := hk116.below hb117
  have hk133 := hk132.below hb125
  refine d1 26 h129 rfl rfl (op_call (args := #[pt N35 0]) (R := fun res xw => res = .int .i64 0 ∧ Below w124.heap.size w124 xw) rfl rfl rfl (by kernel_rfl) (by kernel_rfl) (Try.call25 _ _) (rsLenF N35 w124 hk133) (by rintro e x ⟨rfl, hb134⟩; exact ⟨_, rfl, ⟨rfl, hb134⟩⟩)) ?_ ?_; clear h129
  ·
   rintro _ w131 ⟨rfl, hb134⟩
   have hz135 := hb134.size
   have hB136 := hb_call hB127 hb134
   have hk137 := hk128.below hb134
   exact ⟨hB136, hk137⟩
  rintro _ w131 a130 ⟨rfl, hb134⟩ h130
  have hz135 := hb134.size
  have hB136 := hb_call hB127 hb134
  have hk137 := hk128.below hb134
  refine dk0 27 (v := .int .i64 0) h130 rfl rfl ⟨hB136, hk137⟩ fun a138 h138 => ?_; clear h130
  refine d1 29 h138 rfl rfl (op_call (args := #[.pointer none]) (R := fun res xw => res = .int .i64 0 ∧ Below w131.heap.size w131 xw) rfl rfl rfl (by kernel_rfl) (by kernel_rfl) (Try.call19 _ _) (rsStampedN  w131 ) (by rintro e x ⟨rfl, hb141⟩; exact ⟨_, rfl, ⟨rfl, hb141⟩⟩)) ?_ ?_; clear h138
  ·
   rintro _ w140 ⟨rfl, hb141⟩
   have hz142 := hb141.size
   have hB143 := hb_call hB136 hb141
   have hk144 := hk137.below hb141
   exact ⟨hB143, hk144⟩
  rintro _ w140 a139 ⟨rfl, hb141⟩ h139
  have hz142 := hb141.size
  have hB143 := hb_call hB136 hb141
  have hk144 := hk137.below hb141
  refine dk0 30 (v := .int .i64 0) h139 rfl rfl ⟨hB143, hk144⟩ fun a145 h145 => ?_; clear h139
  have hk148 := hk133.below hb134
  have hk149 := hk148.below hb141
  refine d1 31 h145 rfl rfl (op_call (args := #[pt N35 0]) (R := fun res xw => res = .int .i64 0 ∧ Below w140.heap.size w140 xw) rfl rfl rfl (by kernel_rfl) (by kernel_rfl) (Try.call19 _ _) (rsStampedF N35 w140 hk149) (by rintro e x ⟨rfl, hb150⟩; exact ⟨_, rfl, ⟨rfl, hb150⟩⟩)) ?_ ?_; clear h145
  ·
   rintro _ w147 ⟨rfl, hb150⟩
   have hz151 := hb150.size
   have hB152 := hb_call hB143 hb150
   have hk153 := hk144.below hb150
   exact ⟨hB152, hk153⟩
  rintro _ w147 a146 ⟨rfl, hb150⟩ h146
  have hz151 := hb150.size
  have hB152 := hb_call hB143 hb150
  have hk153 := hk144.below hb150
  refine dk0 32 (v := .int .i64 0) h146 rfl rfl ⟨hB152, hk153⟩ fun a154 h154 => ?_; clear h146
  refine d1 36 h154 rfl rfl (op_call (args := #[.pointer none, .int .i64 d.n]) (R := fun res xw => res = .int .i64 0 ∧ Below w147.heap.size w147 xw) rfl rfl rfl (by kernel_rfl) (by kernel_rfl) (Try.call26 _ _) (rsTopN d.n w147 ) (by rintro e x ⟨rfl, hb157⟩; exact ⟨_, rfl, ⟨rfl, hb157⟩⟩)) ?_ ?_; clear h154
  ·
   rintro _ w156 ⟨rfl, hb157⟩
   have hz158 := hb157.size
   have hB159 := hb_call hB152 hb157
   have hk160 := hk153.below hb157
   exact ⟨hB159, hk160⟩
  rintro _ w156 a155 ⟨rfl, hb157⟩ h155
  have hz158 := hb157.size
  have hB159 := hb_call hB152 hb157
  have hk160 := hk153.below hb157
  refine dk0 37 (v := .int .i64 0) h155 rfl rfl ⟨hB159, hk160⟩ fun a161 h161 => ?_; clear h155
  have hk164 := hk149.below hb150
  have hk165 := hk164.below hb157
  refine d1 40 h161 rfl rfl (op_call (args := #[pt N35 0, .int .i64 d.n]) (R := fun res xw => res = .int .i64 0 ∧ Below w156.heap.size w156 xw) rfl rfl rfl (by kernel_rfl) (by kernel_rfl) (Try.call26 _ _) (rsTopF N35 d.n w156 hk165) (by rintro e x ⟨rfl, hb166⟩; exact ⟨_, rfl, ⟨rfl, hb166⟩⟩)) ?_ ?_; clear h161
  ·
   rintro _ w163 ⟨rfl, hb166⟩
   have hz167 := hb166.size
   have hB168 := hb_call hB159 hb166
   have hk169 := hk160.below hb166
   exact ⟨hB168, hk169⟩
  rintro _ w163 a162 ⟨rfl, hb166⟩ h162
  have hz167 := hb166.size
  have hB168 := hb_call hB159 hb166
  have hk169 := hk160.below hb166
  refine dk0 41 (v := .int .i64 0) h162 rfl rfl ⟨hB168, hk169⟩ fun a170 h170 => ?_; clear h162
  refine d1 43 h170 rfl rfl (op_call (args := #[.pointer none]) (R := fun res xw => ∃ u : Value, res = .agg #[.int .i64 0, u, .int .u64 0] ∧ xw.ownsRow w163.heap.size 117 2 u ([] : List MemT).length (([] : List MemT).flatMap memE) ∧ Below w163.heap.size w163 xw) rfl rfl rfl (by kernel_rfl) (by kernel_rfl) (Try.call10 _ _) (rsConfN  w163 ) (by rintro e x ⟨u, rfl, hq174, hb175⟩; exact ⟨_, rfl, ⟨u, rfl, hq174, hb175⟩⟩)) ?_ ?_; clear h170
  ·
   rintro _ w172 ⟨u173, rfl, hq174, hb175⟩
   have hz176 := hb175.size
   have hl177 := sl_len (row_sl hq174 memE_len)
   have hB178 := hb_call hB168 hb175
   have hk179 := hk169.below hb175
   exact ⟨hB178, hk179⟩
  rintro _ w172 a171 ⟨u173, rfl, hq174, hb175⟩ h171
  have hz176 := hb175.size
  have hl177 := sl_len (row_sl hq174 memE_len)
  have hB178 := hb_call hB168 hb175
  have hk179 := hk169.below hb175
  refine dk0 44 (v := .int .i64 0) h171 rfl rfl ⟨hB178, hk179⟩ fun a180 h180 => ?_; clear h171
  refine dk0 45 (v := .int .i64 0) h180 rfl rfl ⟨hB178, hk179⟩ fun a181 h181 => ?_; clear h180
  have hk184 := hk165.below hb166
  have hk185 := hk184.below hb175
  refine d1 46 h181 rfl rfl (op_call (args := #[pt N35 0]) (R := fun res xw => ∃ u : Value, res = .agg #[.int .i64 0, u, .int .u64 0] ∧ xw.ownsRow w172.heap.size 117 2 u ([] : List MemT).length (([] : List MemT).flatMap memE) ∧ Below w172.heap.size w172 xw) rfl rfl rfl (by kernel_rfl) (by kernel_rfl) (Try.call10 _ _) (rsConfF N35 w172 hk185) (by rintro e x ⟨u, rfl, hq187, hb188⟩; exact ⟨_, rfl, ⟨u, rfl, hq187, hb188⟩⟩)) ?_ ?_; clear h181
  ·
   rintro _ w183 ⟨u186, rfl, hq187, hb188⟩
   have hz189 := hb188.size
   have hl190 := sl_len (row_sl hq187 memE_len)
   have hB191 := hb_call hB178 hb188
   have hk192 := hk179.below hb188
   exact ⟨hB191, hk192⟩
  rintro _ w183 a182 ⟨u186, rfl, hq187, hb188⟩ h182
  have hz189 := hb188.size
  have hl190 := sl_len (row_sl hq187 memE_len)
  have hB191 := hb_call hB178 hb188
  have hk192 := hk179.below hb188
  refine dk0 47 (v := .int .i64 0) h182 rfl rfl ⟨hB191, hk192⟩ fun a193 h193 => ?_; clear h182
  refine dk0 48 (v := .int .i64 0) h193 rfl rfl ⟨hB191, hk192⟩ fun a194 h194 => ?_; clear h193
  refine d1 50 h194 rfl rfl (op_call (args := #[]) (R := fun res xw => ∃ N S, res = pt N 0 ∧ MvO S xw N (fun _ => []) 0 0 0 ∧ (∀ q, S q → w183.heap.size ≤ q) ∧ Below w183.heap.size w183 xw) rfl rfl rfl (by kernel_rfl) (by kernel_rfl) (Try.call14 _ _) (mvNew w183) (by rintro e x ⟨N, S, rfl, h⟩; exact ⟨_, rfl, N, S, rfl, h⟩)) ?_ ?_; clear h194
  ·
   rintro _ w196 ⟨N197, S198, rfl, -, -, hb201⟩
   have hz202 := hb201.size
   have hB203 := hb_call hB191 hb201
   have hk204 := hk192.below hb201
   exact ⟨hB203, hk204⟩
  rintro _ w196 a195 ⟨N197, S198, rfl, -, -, hb201⟩ h195
  have hz202 := hb201.size
  have hB203 := hb_call hB191 hb201
  have hk204 := hk192.below hb201
  refine d1 51 h195 rfl rfl (op_call (args := #[.pointer none, pt N197 0, .int .i64 0, .int .i64 9]) (R := fun res xw => res = .int .i64 0 ∧ Below w196.heap.size w196 xw) rfl rfl rfl (by kernel_rfl) (by kernel_rfl) (Try.call15 _ _) (rsFeedN (pt N197 0) 0 9 w196 ) (by rintro e x ⟨rfl, hb207⟩; exact ⟨_, rfl, ⟨rfl, hb207⟩⟩)) ?_ ?_; clear h195
  ·
   rintro _ w206 ⟨rfl, hb207⟩
   have hz208 := hb207.size
   have hB209 := hb_call hB203 hb207
   have hk210 := hk204.below hb207
   exact ⟨hB209, hk210⟩
  rintro _ w206 a205 ⟨rfl, hb207⟩ h205
  have hz208 := hb207.size
  have hB209 := hb_call hB203 hb207
  have hk210 := hk204.below hb207
  refine dk0 52 (v := .int .i64 0) h205 rfl rfl ⟨hB209, hk210⟩ fun a211 h211 => ?_; clear h205
  have hk214 := hk185.below hb188
  have hk215 := hk214.below hb201
  have hk216 := hk215.below hb207
  refine d1 53 h211 rfl rfl (op_call (args := #[pt N35 0, .pointer none, .int .i64 0, .int .i64 9]) (R := fun res xw => res = .int .i64 0 ∧ Below w206.heap.size w206 xw) rfl rfl rfl (by kernel_rfl) (by kernel_rfl) (Try.call15 _ _) (rsFeedF N35 (.pointer none) 0 9 w206 hk216) (by rintro e x ⟨rfl, hb217⟩; exact ⟨_, rfl, ⟨rfl, hb217⟩⟩)) ?_ ?_; clear h211
  ·
   rintro _ w213 ⟨rfl, hb217⟩
   have hz218 := hb217.size
   have hB219 := hb_call hB209 hb217
   have hk220 := hk210.below hb217
   exact ⟨hB219, hk220⟩
  rintro _ w213 a212 ⟨rfl, hb217⟩ h212
  have hz218 := hb217.size
  have hB219 := hb_call hB209 hb217
  have hk220 := hk210.below hb217
  refine dk0 54 (v := .int .i64 0) h212 rfl rfl ⟨hB219, hk220⟩ fun a221 h221 => ?_; clear h212
  refine dk0 55 (v := .bool ((0 : Int) == 0)) h221 rfl rfl ⟨hB219, hk220⟩ fun a222 h222 => ?_; clear h221
  refine dk0 56 (v := .bool ((0 : Int) == 0)) h222 rfl rfl ⟨hB219, hk220⟩ fun a223 h223 => ?_; clear h222
  refine dk0 57 (v := .bool ((0 : Int) == 0)) h223 rfl rfl ⟨hB219, hk220⟩ fun a224 h224 => ?_; clear h223
  have hc225 : ((0 : Int) == 0) = true := by first | (simp; done) | (simp; omega) | exact beq_false_of_ne (by omega) | exact beq_iff_eq.2 (by omega)
  rw [hc225] at h224; clear hc225
  refine dk0 58 (v := .pointer none) h224 rfl rfl ⟨hB219, hk220⟩ fun a226 h226 => ?_; clear h224
  refine d1 59 h226 rfl rfl (op_call (args := #[.pointer none]) (R := fun res xw => res = .int .u64 0 ∧ Below w213.heap.size w213 xw) rfl rfl rfl (by kernel_rfl) (by kernel_rfl) (Try.call9 _ _) (rsHorizonN  w213 ) (by rintro e x ⟨rfl, hb229⟩; exact ⟨_, rfl, ⟨rfl, hb229⟩⟩)) ?_ ?_; clear h226
  ·
   rintro _ w228 ⟨rfl, hb229⟩
   have hz230 := hb229.size
   have hB231 := hb_call hB219 hb229
   have hk232 := hk220.below hb229
   exact ⟨hB231, hk232⟩
  rintro _ w228 a227 ⟨rfl, hb229⟩ h227
  have hz230 := hb229.size
  have hB231 := hb_call hB219 hb229
  have hk232 := hk220.below hb229
  have hk235 := hk216.below hb217
  have hk236 := hk235.below hb229
  refine d1 60 h227 rfl rfl (op_call (args := #[pt N35 0]) (R := fun res xw => res = .int .u64 0 ∧ Below w228.heap.size w228 xw) rfl rfl rfl (by kernel_rfl) (by kernel_rfl) (Try.call9 _ _) (rsHorizonF N35 w228 hk236) (by rintro e x ⟨rfl, hb237⟩; exact ⟨_, rfl, ⟨rfl, hb237⟩⟩)) ?_ ?_; clear h227
  ·
   rintro _ w234 ⟨rfl, hb237⟩
   have hz238 := hb237.size
   have hB239 := hb_call hB231 hb237
   have hk240 := hk232.below hb237
   exact ⟨hB239, hk240⟩
  rintro _ w234 a233 ⟨rfl, hb237⟩ h233
  have hz238 := hb237.size
  have hB239 := hb_call hB231 hb237
  have hk240 := hk232.below hb237
  refine dk0 61 (v := .int .u64 0) h233 rfl rfl ⟨hB239, hk240⟩ fun a241 h241 => ?_; clear h233
  refine dk0 62 (v := .bool ((0 : Int) == 0)) h241 rfl rfl ⟨hB239, hk240⟩ fun a242 h242 => ?_; clear h241
  refine dk0 63 (v := .bool ((0 : Int) == 0)) h242 rfl rfl ⟨hB239, hk240⟩ fun a243 h243 => ?_; clear h242
  refine dk0 64 (v := .bool ((0 : Int) == 0)) h243 rfl rfl ⟨hB239, hk240⟩ fun a244 h244 => ?_; clear h243
  have hc245 : ((0 : Int) == 0) = true := by first | (simp; done) | (simp; omega) | exact beq_false_of_ne (by omega) | exact beq_iff_eq.2 (by omega)
  rw [hc245] at h244; clear hc245
  refine dk0 65 (v := .pointer none) h244 rfl rfl ⟨hB239, hk240⟩ fun a246 h246 => ?_; clear h244
  refine d1 66 h246 rfl rfl (op_call (args := #[.pointer none, .int .i64 1, .int .i64 1]) (R := fun res xw => res = .int .i64 (-1) ∧ Below w234.heap.size w234 xw) rfl rfl rfl (by kernel_rfl) (by kernel_rfl) (Try.call27 _ _) (rsFindN 1 1 w234 ) (by rintro e x ⟨rfl, hb249⟩; exact ⟨_, rfl, ⟨rfl, hb249⟩⟩)) ?_ ?_; clear h246
  ·
   rintro _ w248 ⟨rfl, hb249⟩
   have hz250 := hb249.size
   have hB251 := hb_call hB239 hb249
   have hk252 := hk240.below hb249
   exact ⟨hB251, hk252⟩
  rintro _ w248 a247 ⟨rfl, hb249⟩ h247
  have hz250 := hb249.size
  have hB251 := hb_call hB239 hb249
  have hk252 := hk240.below hb249
  have hk255 := hk236.below hb237
  have hk256 := hk255.below hb249
  refine d1 67 h247 rfl rfl (op_call (args := #[pt N35 0, .int .i64 1, .int .i64 1]) (R := fun res xw => res = .int .i64 (-1) ∧ Below w248.heap.size w248 xw) rfl rfl rfl (by kernel_rfl) (by kernel_rfl) (Try.call27 _ _) (rsFindF N35 1 1 w248 hk256) (by rintro e x ⟨rfl, hb257⟩; exact ⟨_, rfl, ⟨rfl, hb257⟩⟩)) ?_ ?_; clear h247
  ·
   rintro _ w254 ⟨rfl, hb257⟩
   have hz258 := hb257.size
   have hB259 := hb_call hB251 hb257
   have hk260 := hk252.below hb257
   exact ⟨hB259, hk260⟩
  rintro _ w254 a253 ⟨rfl, hb257⟩ h253
  have hz258 := hb257.size
  have hB259 := hb_call hB251 hb257
  have hk260 := hk252.below hb257
  refine dk 68 (v := .int .i64 ((-1) + (-1))) h253 rfl rfl ⟨hB259, hk260⟩ (fun x hx => (rn_arith rfl rfl rfl rfl rfl rfl (IntWalk.i64_in _ (by omega)))) fun a261 h261 => ?_; clear h253
  refine dk0 69 (v := .bool ((-1) + (-1) == (-2))) h261 rfl rfl ⟨hB259, hk260⟩ fun a262 h262 => ?_; clear h261
  refine dk0 70 (v := .bool ((-1) + (-1) == (-2))) h262 rfl rfl ⟨hB259, hk260⟩ fun a263 h263 => ?_; clear h262
  refine dk0 71 (v := .bool ((-1) + (-1) == (-2))) h263 rfl rfl ⟨hB259, hk260⟩ fun a264 h264 => ?_; clear h263
  have hc265 : ((-1) + (-1) == (-2)) = true := by first | (simp; done) | (simp; omega) | exact beq_false_of_ne (by omega) | exact beq_iff_eq.2 (by omega)
  rw [hc265] at h264; clear hc265
  have hk268 := hk15.below hb24
  have hk269 := hk268.kept hg36 (by simp)
  have hk270 := hk269.kept hg42 (by simp)
  have hk271 := hk270.below hb57
  have hk272 := hk271.below hb69
  have hk273 := hk272.below hb90
  have hk274 := hk273.below hb99
  have hk275 := hk274.below hb107
  have hk276 := hk275.below hb117
  have hk277 := hk276.below hb125
  have hk278 := hk277.below hb134
  have hk279 := hk278.below hb141
  have hk280 := hk279.below hb150
  have hk281 := hk280.below hb157
  have hk282 := hk281.below hb166
  have hk283 := hk282.below hb175
  have hk284 := hk283.below hb188
  have hk285 := hk284.below hb201
  have hk286 := hk285.below hb207
  have hk287 := hk286.below hb217
  have hk288 := hk287.below hb229
  have hk289 := hk288.below hb237
  have hk290 := hk289.below hb249
  have hk291 := hk290.below hb257
  have hr292 := row_kept_new hq174 (below_grown hb188)
  have hr293 := row_kept_new hr292 (below_grown hb201)
  have hr294 := row_kept_new hr293 (below_grown hb207)
  have hr295 := row_kept_new hr294 (below_grown hb217)
  have hr296 := row_kept_new hr295 (below_grown hb229)
  have hr297 := row_kept_new hr296 (below_grown hb237)
  have hr298 := row_kept_new hr297 (below_grown hb249)
  have hr299 := row_kept_new hr298 (below_grown hb257)
  have hr300 := row_kept_new hq187 (below_grown hb201)
  have hr301 := row_kept_new hr300 (below_grown hb207)
  have hr302 := row_kept_new hr301 (below_grown hb217)
  have hr303 := row_kept_new hr302 (below_grown hb229)
  have hr304 := row_kept_new hr303 (below_grown hb237)
  have hr305 := row_kept_new hr304 (below_grown hb249)
  have hr306 := row_kept_new hr305 (below_grown hb257)
  refine d1 72 h264 rfl rfl (op_call (args := #[]) (R := fun res xw => res = .bool true ∧ Below w254.heap.size w254 xw) rfl rfl rfl (by kernel_rfl) (by kernel_rfl) (Try.call7 _ _) (awake30 w254) (by rintro e x ⟨rfl, h⟩; exact ⟨_, rfl, rfl, h⟩)) ?_ ?_; clear h264
  ·
   rintro _ w267 ⟨rfl, hb307⟩
   have hz308 := hb307.size
   have hB309 := hb_call hB259 hb307
   have hk310 := hk260.below hb307
   exact ⟨hB309, hk310⟩
  rintro _ w267 a266 ⟨rfl, hb307⟩ h266
  have hz308 := hb307.size
  have hB309 := hb_call hB259 hb307
  have hk310 := hk260.below hb307
  refine dk0 73 (v := .bool true) h266 rfl rfl ⟨hB309, hk310⟩ fun a311 h311 => ?_; clear h266
  refine dk0 74 (v := .bool true) h311 rfl rfl ⟨hB309, hk310⟩ fun a312 h312 => ?_; clear h311
  refine dr_done (by kernel_rfl) ?_
  refine co_then ?_
  refine wp_ret ?_
  refine co_ret1 h312 rfl rfl ?_
  exact ⟨rfl, hB309⟩
 ·
  rw [hc27] at h26
  have hp313 : r23 > 20 := of_decide_eq_true hc27
  clear hc27
  refine co_true h26 rfl ?_
  refine co_seq ?_
  refine co_reg ?_
  refine pw h26 rfl (op_call (args := #[]) (R := fun res xw => res = .bool true ∧ Below w20.heap.size w20 xw) rfl rfl rfl (by kernel_rfl) (by kernel_rfl) (Try.call7 _ _) (awake30 w20) (by rintro e x ⟨rfl, h⟩; exact ⟨_, rfl, rfl, h⟩)) ?_; clear h26
  rintro _ w315 a314 ⟨rfl, hb316⟩ h314
  have hz317 := hb316.size
  refine pk0 (v := .bool true) h314 rfl fun a318 h318 => ?_; clear h314
  refine pl_nil ?_
  refine co_then ?_
  refine wp_ret ?_
  refine co_thenR ?_
  refine co_ret1 h318 rfl rfl ?_
  have hB319 := hb_call hB28 hb316
  exact ⟨rfl, hB319⟩

theorem rstateZero_law (y : NoteX) (w : World) (h : NoteOk w y) : Calls Try.prog 5 #[noteV y] w fun e w' => e = .returned (.bool true) ∧ Below w.heap.size w w' :=
  rstateZero_any y.d y.mv y.lv y.ev w h.hm h.hg h.he

end Go.Proofs.Ytkjnhghniopnoaa
