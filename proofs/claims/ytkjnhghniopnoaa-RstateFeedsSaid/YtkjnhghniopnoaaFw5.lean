/- Put together: MvCFv, MvDFv, MvEFv, MvFFv, RstCFv, RstDFv, RstEFv, RstHFv, RstIFv, RstKFv, MvHFv, KeysAFv, BytesFv, MvKFv, KeyTFv, OvAFv, MvMFv, MwAFv, MwBFv, MwCFv, MwDFv. Conditions: as each says. -/
import Derived.Test.YtkjnhghniopnoaaFw4
import Derived.Test.YtkjnhghniopnoaaFw1
import Derived.Test.YtkjnhghniopnoaaFw3
import Derived.Scope
import Derived.Laws.BytesArg
import Derived.Lib.ConvBytes
import Derived.BigQuiet
import Derived.Sort.KeysCollected
import Derived.Maps.OwnSet
import Derived.Sort.OwnSorted
import Derived.Shelf.Sort.Plain
import Derived.Deep.AppendLies
/- Package mvcc: zero, Get, Put. Conditions: at most 70000 keys, 800 versions each, 20 operations. -/
namespace Go.Proofs.Ytkjnhghniopnoaa
open Go.RowKit Go.PlainAid
set_option linter.unusedVariables false
set_option linter.unusedSimpArgs false

set_option maxRecDepth 100000 in
theorem mzero_any (b : Nat) (p : Value) (u : Value) (c : Value) (w : World) (hB : Blk w b 92 #[.bool true, p, u, c]) :
    Calls Try.prog 47 #[pt b 0] w fun e w' => e = .returned (.bool false) ∧ w = w' := by
 have hB0 := Below.refl w.heap.size w
 have hl_hB := hB.lt
 refine co_enter (n := 12) Try.func47 rfl rfl rfl [(0, pt b 0)] rfl (fun a h0 => ?_)
 refine co_seq ?_
 refine co_reg ?_
 refine pk0 (v := .bool false) h0 rfl fun a1 h1 => ?_; clear h0
 refine pl_nil ?_
 refine co_then ?_
 refine co_seq ?_
 refine co_reg ?_
 refine pk0 (v := pt b 0) h1 rfl fun a2 h2 => ?_; clear h1
 refine pk0 (v := .bool false) h2 rfl fun a3 h3 => ?_; clear h2
 refine pk0 (v := .bool false) h3 rfl fun a4 h4 => ?_; clear h3
 refine pk0 (v := pt b 0) h4 rfl fun a5 h5 => ?_; clear h4
 refine pk0 (v := pt b 0) h5 rfl fun a6 h6 => ?_; clear h5
 refine pk0 (v := pt b 0) h6 rfl fun a7 h7 => ?_; clear h6
 refine pk (v := .bool true) h7 rfl (rn_load1 rfl rfl Try.isAgg4 (hB.cell rfl)) fun a8 h8 => ?_; clear h7
 refine pk0 (v := .bool false) h8 rfl fun a9 h9 => ?_; clear h8
 refine pk0 (v := .bool false) h9 rfl fun a10 h10 => ?_; clear h9
 refine pk0 (v := .bool false) h10 rfl fun a11 h11 => ?_; clear h10
 refine pl_nil ?_
 refine co_then ?_
 refine wp_ret ?_
 refine co_ret1 h11 rfl rfl ?_
 exact ⟨rfl, rfl⟩

theorem cellE_len (c : CellT) : (cellE c).length = 3 := rfl
theorem cellE_oneC (c : CellT) : ∀ u ∈ cellE c, u.oneCell' = true := by intro u hu; simp [cellE] at hu; rcases hu with rfl | rfl | rfl <;> rfl
section
variable {S : Nat → Prop} {w x : World}
theorem sl_butNM {α : Type} {enc : α → List Value} {sz : Nat} {v : Value} {l : List α} (h : SliceOf enc sz w v l) (hb : But S w x) (hv : l ≠ [] → ∀ k, v.ownBlock = some k → ¬ S k) : SliceOf enc sz x v l := by
  obtain ⟨ao, cap, rfl, h1, h2, h3, h4⟩ := h
  refine ⟨ao, cap, rfl, h1, h2, h3, fun j hj => ?_⟩
  obtain ⟨b, off, e, hr⟩ := h4 j hj
  subst e
  refine ⟨b, off, rfl, fun i u hu => ?_⟩
  have hc := hr i u hu
  have hlt := World.block_lt_of_cell? w _ hc
  exact (World.cell?_of_block (w := w) (hb.block b hlt (hv (fun q => by subst q; simp at hj) b rfl))).trans hc
end
theorem chkL_up : ∀ (p : Option ByteArray) (l : List OpT), chkL p l = 0 → (∀ q, p = some q → ∀ z ∈ l, klt q z.1 = true) ∧ l.Pairwise (fun a b => klt a.1 b.1 = true)
  | _, [], _ => ⟨fun _ _ z hz => by simp at hz, List.Pairwise.nil⟩
  | p, o :: r, h => by
    unfold chkL at h
    split at h
    · rename_i h0; exact absurd h h0
    · split at h
      · rename_i hu
        obtain ⟨h1, h2⟩ := chkL_up (some o.1) r h
        refine ⟨fun q e z hz => ?_, List.pairwise_cons.2 ⟨fun z hz => h1 o.1 rfl z hz, h2⟩⟩
        subst e
        rcases List.mem_cons.1 hz with rfl | hz
        · exact hu
        · exact klt_tr (show klt q o.1 = true from hu) (h1 o.1 rfl z hz)
      · cases h
theorem chkB_up {l : List OpT} {c r : Int} (h : chkB c r l = 0) : l.Pairwise (fun a b => klt a.1 b.1 = true) := (chkL_up none l (chkB_ok h).2.2.2).2
/-- What Put answers, and what it comes to. -/
def mvE (la ts : Int) (l : List OpT) : Int := if ts = 0 then 5 else if ts ≤ la then 18 else chkB 0 1 l
noncomputable def mvF (f : Fv) (la ts : Int) (l : List OpT) : Fv := if mvE la ts l = 0 then putsF f ts l else f
def mvLa (la ts : Int) (l : List OpT) : Int := if mvE la ts l = 0 then ts else la
def mvCe (la ts ce : Int) (l : List OpT) : Int := if mvE la ts l = 0 then ce + l.length else ce
section
variable {la ts ce : Int} {l : List OpT} {f : Fv} {n k : Nat} {y : OpT}
theorem mvE_a (h : ts = 0) : mvE la ts l = 5 := if_pos h
theorem mvE_b (h : ¬ ts = 0) (h2 : ts ≤ la) : mvE la ts l = 18 := by unfold mvE; rw [if_neg h, if_pos h2]
theorem mvE_c (h : ¬ ts = 0) (h2 : ¬ ts ≤ la) : mvE la ts l = chkB 0 1 l := by unfold mvE; rw [if_neg h, if_neg h2]
theorem mv_now (hF : FOk f la n) (hup : l.Pairwise (fun a b => klt a.1 b.1 = true)) (hy : l[k]? = some y) (hlt : la < ts) (hn : n ≤ 800) : (putsF f ts (l.take k) y.1).length ≤ 900 ∧ lastTs 0 (putsF f ts (l.take k) y.1) < ts := by
  obtain ⟨hk, e⟩ := List.getElem?_eq_some_iff.1 hy
  have e2 : putsF f ts (l.take k) y.1 = f y.1 := putsF_off fun o ho => by
    obtain ⟨j, hj, e3⟩ := List.mem_iff_getElem.1 ho
    rw [List.length_take] at hj
    rw [List.getElem_take] at e3
    rw [← e3, ← e]
    exact klt_ne (List.pairwise_iff_getElem.1 hup j k (by omega) hk (by omega))
  rw [e2]
  have h1 := hF.len y.1; have h2 := hF.le y.1
  exact ⟨by omega, by omega⟩
theorem mv_take (hy : l[k]? = some y) : putsF f ts (l.take (k + 1)) = upd (putsF f ts (l.take k)) y.1 (putsF f ts (l.take k) y.1 ++ [(ts, y.2.1, y.2.2)]) := by rw [takeO_at hy, putsF_snoc]
end
theorem strE_len (x : ByteArray) : (strE x).length = 1 := rfl
theorem vkeys2_any (S : Nat → Prop) (w : World) (tb : Nat) (K : List ByteArray) (f : Fv) (F T : ByteArray) (h : VkO S w tb K f) (hK : K.length ≤ 80000) :
    Calls Try.prog 48 #[pt tb 0, .string F, .string T] w fun e w' => ∃ (ao : Option Addr) (nn cap : Nat), e = .returned (.slice ao nn cap) ∧ w'.ownsRow w.heap.size 9 1 (.slice ao nn cap) (K.filter (inR F T)).length ((K.filter (inR F T)).flatMap strE) ∧ Below w.heap.size w w' := by
  refine (vkeys_any S w tb K f F T h hK).mono ?_
  rintro e w' ⟨u, rfl, hr, hb⟩
  obtain ⟨ao, n, cap, rfl⟩ := own_sliceT hr
  exact ⟨ao, n, cap, rfl, hr, hb⟩
set_option maxRecDepth 100000
theorem mget_blk (b tb : Nat) (u c : Value) (S : Nat → Prop) (K : List ByteArray) (f : Fv) (k : ByteArray) (t la : Int) (n : Nat) (w : World) (hB : Blk w b 92 #[.bool true, pt tb 0, u, c]) (hV : VkO S w tb K f) (hF : FOk f la n) :
    Calls Try.prog 28 #[pt b 0, .string k, .int .u64 t] w fun e w' => e = .returned (.tuple #[.string (atS (f k) t).1, .bool (atS (f k) t).2]) ∧ Below w.heap.size w w' := by
  have c1 : w.cell? ⟨b, 1, none⟩ = some (pt tb 0) := hB.cell (k := 1) rfl
  have HB := Lib.hid hB; have HV := Lib.hid hV; have HF := Lib.hid hF; clear hB hV hF
  go_enter Try.func28, Try.ntmps28
  go_wp2_with fail
  refine (mzero_any b _ _ _ w HB.out).mono ?_
  rintro e w1 ⟨rfl, rfl⟩
  go_wp2_with fail
  refine (vget_any S _ tb K f k HV.out).mono ?_
  rintro e w2 ⟨v, bb, rfl, hr, -, rfl⟩
  have HS := Lib.hid (cellRow.sl hr); clear hr
  unfold slV at HS ⊢
  go_wp2_with fail
  refine (at_any _ _ t _ HS.out (HF.out.ok k)).mono ?_
  rintro e w3 ⟨rfl, hb⟩
  have HBB := Lib.hid hb; clear hb
  go_wp2
  go_ret2
  exact ⟨rfl, HBB.out⟩

set_option maxRecDepth 100000 in
set_option maxHeartbeats 3200000 in
theorem mput_blk (S : Nat → Prop) (b : Nat) (tb : Nat) (K : List ByteArray) (f : Fv) (la : Int) (ce : Int) (n : Nat) (ts : Int) (v : Value) (l : List OpT) (w : World) (hB : Blk w b 92 #[.bool true, pt tb 0, .int .u64 la, .int .i64 ce]) (hV : VkO S w tb K f) (hSb : ¬ S b) (hF : FOk f la n) (hn : n ≤ 800) (hla : 0 ≤ la ∧ la < 18446744073709551616) (hce : -100000000000 ≤ ce ∧ ce ≤ 100000000000) (hs : SliceOf opE 3 w v l) (hvS : l ≠ [] → ∀ k, v.ownBlock = some k → ¬ (k = b ∨ S k)) (hts : 0 ≤ ts ∧ ts < 18446744073709551616) (hK : K.length ≤ 70000) (hl : l.length ≤ 20) :
    Calls Try.prog 43 #[pt b 0, .int .u64 ts, v] w fun e w' => ∃ (S' : Nat → Prop) (K' : List ByteArray), e = .returned (.int .i64 (mvE la ts l)) ∧ Blk w' b 92 #[.bool true, pt tb 0, .int .u64 (mvLa la ts l), .int .i64 (mvCe la ts ce l)] ∧ VkO S' w' tb K' (mvF f la ts l) ∧ (∀ q, S' q → (q = b ∨ S q) ∨ w.heap.size ≤ q) ∧ ¬ S' b ∧ K'.length ≤ K.length + l.length ∧ But (fun q => q = b ∨ S q) w w' := by
 have hB0 := But.refl (fun q => q = b ∨ S q) w
 have hl_hB := hB.lt
 have hl_hs := sl_len hs
 have hinS : ∀ k, S k → (k = b ∨ S k) ∨ w.heap.size ≤ k := fun k hk => .inl (.inr hk)
 have hinb : (b = b ∨ S b) ∨ w.heap.size ≤ b := .inl (.inl rfl)
 refine co_enter (n := 77) Try.func43 rfl rfl rfl [(0, pt b 0), (1, .int .u64 ts), (2, v)] rfl (fun a h0 => ?_)
 refine co_seq ?_
 refine co_reg ?_
 refine pk0 (v := .int .i64 0) h0 rfl fun a1 h1 => ?_; clear h0
 refine pl_nil ?_
 refine co_then ?_
 refine co_seq ?_
 refine co_seq ?_
 refine co_reg ?_
 refine pk0 (v := pt b 0) h1 rfl fun a2 h2 => ?_; clear h1
 refine pw h2 rfl (op_call (args := #[pt b 0]) (R := fun res xw => res = .bool false ∧ w = xw) rfl rfl rfl (by kernel_rfl) (by kernel_rfl) (Try.call47 _ _) (mzero_any b (pt tb 0) (.int .u64 la) (.int .i64 ce) w hB) (by rintro e x ⟨rfl, rfl⟩; exact ⟨_, rfl, rfl, rfl⟩)) ?_; clear h2
 rintro _ _ a3 ⟨rfl, rfl⟩ h3
 refine pl_nil ?_
 refine co_then ?_
 refine co_false h3 rfl ?_
 refine wp_skip ?_
 refine co_then ?_
 refine co_seq ?_
 refine co_seq ?_
 refine co_reg ?_
 refine pk0 (v := .int .u64 ts) h3 rfl fun a5 h5 => ?_; clear h3
 refine pk0 (v := .bool (ts == 0)) h5 rfl fun a6 h6 => ?_; clear h5
 refine pl_nil ?_
 refine co_then ?_
 cases hc7 : (ts == 0)
 ·
  rw [hc7] at h6
  have hp8 : ¬ (ts = 0) := by first | simpa using hc7 | simpa [and_assoc] using hc7
  clear hc7
  refine co_false h6 rfl ?_
  refine wp_skip ?_
  refine co_then ?_
  refine co_seq ?_
  refine co_seq ?_
  refine co_reg ?_
  refine pk0 (v := .int .u64 ts) h6 rfl fun a9 h9 => ?_; clear h6
  refine pk0 (v := pt b 0) h9 rfl fun a10 h10 => ?_; clear h9
  refine pk0 (v := pt b 0) h10 rfl fun a11 h11 => ?_; clear h10
  refine pk0 (v := pt b 2) h11 rfl fun a12 h12 => ?_; clear h11
  refine pk (v := .int .u64 la) h12 rfl (rn_load1 rfl rfl Try.isAgg27 (hB.cell rfl)) fun a13 h13 => ?_; clear h12
  refine pk0 (v := .bool (decide (ts ≤ la))) h13 rfl fun a14 h14 => ?_; clear h13
  refine pl_nil ?_
  refine co_then ?_
  cases hc15 : (decide (ts ≤ la))
  ·
   rw [hc15] at h14
   have hp16 : ¬ (ts ≤ la) := of_decide_eq_false hc15
   clear hc15
   refine co_false h14 rfl ?_
   refine wp_skip ?_
   refine co_then ?_
   refine co_seq ?_
   refine co_seq ?_
   refine co_reg ?_
   refine pk0 (v := v) h14 rfl fun a17 h17 => ?_; clear h14
   refine pk (v := .agg #[.int .i64 0, .int .i64 1, v]) h17 rfl (by obtain ⟨_, _, _, hq⟩ := sl_form (sl_butNM hs hB0 hvS); subst hq; kernel_rfl) fun a18 h18 => ?_; clear h17
   refine pw h18 rfl (op_call (args := #[.agg #[.int .i64 0, .int .i64 1, v]]) (R := fun res xw => res = .int .i64 (chkB 0 1 l) ∧ Below w.heap.size w xw) rfl rfl rfl (by kernel_rfl) (by kernel_rfl) (Try.call70 _ _) (opsCheck_any 0 1 v l w (sl_butNM hs hB0 hvS)) (by rintro e x ⟨rfl, h⟩; exact ⟨_, rfl, rfl, h⟩)) ?_; clear h18
   rintro _ w20 a19 ⟨rfl, hb21⟩ h19
   have hz22 := hb21.size
   have ho23 := VkO.ofS hV
   refine pk0 (v := .int .i64 (chkB 0 1 l)) h19 rfl fun a24 h24 => ?_; clear h19
   refine pl_nil ?_
   refine co_then ?_
   refine co_seq ?_
   refine co_reg ?_
   refine pk0 (v := .int .i64 (chkB 0 1 l)) h24 rfl fun a25 h25 => ?_; clear h24
   refine pk0 (v := .bool ((chkB 0 1 l) != 0)) h25 rfl fun a26 h26 => ?_; clear h25
   refine pl_nil ?_
   refine co_then ?_
   have hB28 := fbU_call hB0 hb21
   cases hc27 : ((chkB 0 1 l) != 0)
   ·
    rw [hc27] at h26
    have hp29 : ¬ ((chkB 0 1 l) ≠ 0) := by first | simpa using hc27 | simpa [and_assoc] using hc27
    clear hc27
    refine co_false h26 rfl ?_
    refine wp_skip ?_
    refine co_then ?_
    refine co_seq ?_
    refine co_seq ?_
    refine co_reg ?_
    refine pk0 (v := v) h26 rfl fun a30 h30 => ?_; clear h26
    refine pk (v := .int .i64 ((l.length : Nat) : Int)) h30 rfl (rn_len rfl rfl Try.underlying36 (sl_butNM hs hB28 hvS)) fun a31 h31 => ?_; clear h30
    refine pk0 (v := .int .i64 0) h31 rfl fun a32 h32 => ?_; clear h31
    refine pl_nil ?_
    refine co_then ?_
    refine wp_block ?_
    have hE0 : chkB 0 1 l = 0 := by omega
    have hup := chkB_up hE0
    have hlt9 : la < ts := by omega
    have hE9 : mvE la ts l = 0 := by rw [mvE_c (by omega) (by omega)]; exact hE0
    have hin9 := hinS
    have hof9 := hSb
    have h33 : Slots 77 [(0, pt b 0), (1, .int .u64 ts), (2, v), (30, v), (31, .int .i64 ((l.length : Nat) : Int)), (32, .int .i64 0)] _ := h32.sub ⟨rfl, rfl, rfl, rfl, rfl, rfl, trivial⟩; clear h32
    refine co_loop (fun mm a x => ∃ (k : Nat) (SA : Nat → Prop) (KA : List ByteArray) (ca : Int), Slots 77 [(0, pt b 0), (1, .int .u64 ts), (2, v), (30, v), (31, .int .i64 ((l.length : Nat) : Int)), (32, .int .i64 ((k : Nat) : Int))] a ∧ mm = l.length - k ∧ (k ≤ l.length) ∧ (∀ k, SA k → (k = b ∨ S k) ∨ w.heap.size ≤ k) ∧ (¬ SA b) ∧ (KA.length ≤ K.length + k) ∧ (ca = ce + k) ∧ Blk x b 92 #[.bool true, pt tb 0, .int .u64 la, .int .i64 ca] ∧ VkO SA x tb KA (putsF f ts (l.take k)) ∧ But (fun q => q = b ∨ S q) w x) (l.length - 0) ?_ ?_
    have hk34 := hB.below hb21
    have hO35 := VkO.gr hV (below_grown hb21) (fun k e => by cases e)
    · exact ⟨0, S, K, ce, h33.sub ⟨rfl, rfl, rfl, rfl, rfl, (slot_eq rfl (congrArg (Value.int .i64) (by first | rfl | omega))), trivial⟩, rfl, by omega, by exact hin9, by exact hof9, by omega, by omega, hk34, hO35, hB28⟩
    · rintro k36 a37 w38 ⟨k, SA, KA, ca, h37, rfl, hi39, hi40, hi41, hi42, hi43, hf44, hf45, hB46⟩
      have hz47 := hB46.size
      have hl48 := hf44.lt
      have hinA : ∀ k, SA k → (k = b ∨ S k) ∨ w.heap.size ≤ k := by assumption
      have hofA : ¬ SA b := by assumption
      refine co_seq ?_
      refine co_reg ?_
      refine pk0 (v := .bool (decide (((k : Nat) : Int) < ((l.length : Nat) : Int)))) h37 rfl fun a49 h49 => ?_; clear h37
      refine pl_nil ?_
      refine co_then ?_
      refine co_seq ?_
      cases hc50 : (decide (((k : Nat) : Int) < ((l.length : Nat) : Int)))
      ·
       rw [hc50] at h49
       have hp51 : ¬ (((k : Nat) : Int) < ((l.length : Nat) : Int)) := of_decide_eq_false hc50
       clear hc50
       refine co_false h49 rfl ?_
       refine wp_exit ?_
       refine co_thenX ?_
       refine co_thenX ?_
       refine co_blockX ?_
       refine co_then ?_
       refine co_seq ?_
       refine co_reg ?_
       refine pk0 (v := pt b 0) h49 rfl fun a52 h52 => ?_; clear h49
       refine pk0 (v := .int .u64 ts) h52 rfl fun a53 h53 => ?_; clear h52
       refine pk0 (v := pt b 0) h53 rfl fun a54 h54 => ?_; clear h53
       refine pk0 (v := pt b 2) h54 rfl fun a55 h55 => ?_; clear h54
       refine pwD h55 rfl (op_store1 rfl rfl rfl rfl Try.sizeOf27 hf44 rfl) ?_; clear h55
       rintro _ w57 a56 ⟨hk58, hz59, hg60⟩ h56
       have hk58' : Blk w57 b 92 #[.bool true, pt tb 0, .int .u64 ts, .int .i64 ca] := hk58; clear hk58
       have hz61 := hg60.size
       refine pl_nil ?_
       refine co_then ?_
       refine co_seq ?_
       refine co_reg ?_
       refine pk0 (v := .int .i64 0) h56 rfl fun a62 h62 => ?_; clear h56
       refine pl_nil ?_
       refine co_then ?_
       refine wp_ret ?_
       refine co_ret1 h62 rfl rfl ?_
       have hO63 := VkO.gr hf45 hg60 (fun k e => by cases e; exact hofA)
       have hB64 := fbU_at hB46 hg60 (fun hlt => by rcases hinb with hq | hq; exact hq; omega)
       have hk9 : l.take k = l := List.take_of_length_le (by omega)
       have hE := hE9
       have hQ1 := hO63
       have hQ2 := hk58'
       have hc9 : ca = ce + l.length := by omega
       rw [hk9] at hQ1; rw [hc9] at hQ2
       exact ⟨_, _, by rw [hE], by unfold mvLa mvCe; rw [if_pos hE, if_pos hE]; exact hQ2, by unfold mvF; rw [if_pos hE]; exact hQ1, hinA, hofA, by omega, hB64⟩
      ·
       rw [hc50] at h49
       have hp65 : ((k : Nat) : Int) < ((l.length : Nat) : Int) := of_decide_eq_true hc50
       clear hc50
       refine co_true h49 rfl ?_
       refine wp_skip ?_
       refine co_then ?_
       refine co_seq ?_
       refine wp_block ?_
       refine co_seq ?_
       refine co_reg ?_
       obtain ⟨y66, hy66⟩ : ∃ z, l[k]? = some z := ⟨_, List.getElem?_eq_getElem (by first | omega | (simp; done) | (simp; omega))⟩
       refine pk (v := pt (blkOf v) (offOf v + k * 3)) h49 rfl (rn_index rfl rfl rfl Try.underlying36 Try.sizeOf74 (sl_butNM hs hB46 hvS) (by omega) (by first | omega | (simp; done) | (simp; omega))) fun a67 h67 => ?_; clear h49
       refine pk (v := .agg #[.string y66.1, .string y66.2.1, .bool y66.2.2]) h67 rfl (rn_loadN rfl rfl Try.underlying74 rfl (by kernel_rfl) (sl_at (sl_butNM hs hB46 hvS) hy66)) fun a68 h68 => ?_; clear h67
       refine pw h68 rfl (op_new (v := fun N => pt N 0) (T := 74) (cs := #[.string (⟨#[]⟩), .string (⟨#[]⟩), .bool false]) (by kernel_rfl) (by kernel_rfl) (by kernel_rfl)) ?_; clear h68
       rintro _ w70 a69 ⟨N71, rfl, hN74, hz75, hk73, hg72⟩ h69
       have hz76 := hg72.size
       have ho77 := off_new (VkO.ofS hf45) hN74
       try dsimp only at h69
       refine pwD h69 rfl (op_storeN rfl rfl rfl (by kernel_rfl) (by kernel_rfl) hk73 rfl) ?_; clear h69
       rintro _ w79 a78 ⟨hk80, hz81, hg82⟩ h78
       have hk80' : Blk w79 N71 74 #[.string y66.1, .string y66.2.1, .bool y66.2.2] := hk80; clear hk80
       have hz83 := hg82.size
       refine pl_nil ?_
       refine co_then ?_
       refine co_seq ?_
       refine dr_gen (fun x => But (fun q => q = b ∨ S q) w x ∧ Blk x b 92 #[.bool true, pt tb 0, .int .u64 la, .int .i64 ca] ∧ Blk x N71 74 #[.string y66.1, .string y66.2.1, .bool y66.2.2]) (by kernel_rfl) (fun w84 hg85 => ?_) (fun w84 hg85 => ?_)
       ·
        have hz86 := hg85.size
        have hB87 := fbU_new hB46 hg72
        have hB88 := fbU_at hB87 hg82 (fun hlt => absurd hlt (by omega))
        have hB89 := fbU_new hB88 hg85
        have hk90 := hf44.kept hg72 (by simp)
        have hk91 := hk90.kept hg82 (by simp; omega)
        have hk92 := hk91.kept hg85 (by simp)
        have hk93 := hk80'.kept hg85 (by simp)
        exact ⟨hB89, hk92, hk93⟩
       have hz94 := hg85.size
       have hB95 := fbU_new hB46 hg72
       have hB96 := fbU_at hB95 hg82 (fun hlt => absurd hlt (by omega))
       have hB97 := fbU_new hB96 hg85
       have hk98 := hf44.kept hg72 (by simp)
       have hk99 := hk98.kept hg82 (by simp; omega)
       have hk100 := hk99.kept hg85 (by simp)
       have hk101 := hk80'.kept hg85 (by simp)
       refine dk0 0 (v := pt b 0) h78 rfl rfl ⟨hB97, hk100, hk101⟩ fun a102 h102 => ?_; clear h78
       refine dk0 1 (v := pt b 0) h102 rfl rfl ⟨hB97, hk100, hk101⟩ fun a103 h103 => ?_; clear h102
       refine dk0 2 (v := pt b 1) h103 rfl rfl ⟨hB97, hk100, hk101⟩ fun a104 h104 => ?_; clear h103
       refine dk 3 (v := pt tb 0) h104 rfl rfl ⟨hB97, hk100, hk101⟩ (fun x hx => (rn_load1 rfl rfl Try.isAgg88 (hx.2.1.cell rfl))) fun a105 h105 => ?_; clear h104
       refine dk0 4 (v := pt N71 0) h105 rfl rfl ⟨hB97, hk100, hk101⟩ fun a106 h106 => ?_; clear h105
       refine dk 5 (v := .string y66.1) h106 rfl rfl ⟨hB97, hk100, hk101⟩ (fun x hx => (rn_load1 rfl rfl Try.isAgg9 (hx.2.2.cell rfl))) fun a107 h107 => ?_; clear h106
       have hO110 := VkO.gr hf45 hg72 (fun k e => by cases e)
       have hO111 := VkO.gr hO110 hg82 (fun k e => by cases e; exact ho77)
       have hO112 := VkO.gr hO111 hg85 (fun k e => by cases e)
       refine d1 6 h107 rfl rfl (op_call (args := #[pt tb 0, .string y66.1]) (R := fun res xw => ∃ (v : SlT) (b : Bool), res = .tuple #[.slice v.a v.n v.c, .bool b] ∧ xw.ownsRow 0 99 3 (.slice v.a v.n v.c) ((putsF f ts (l.take k)) y66.1).length (((putsF f ts (l.take k)) y66.1).flatMap cellE) ∧ (∀ g, (Value.slice v.a v.n v.c).ownBlock = some g → SA g) ∧ w84 = xw) rfl rfl rfl (by kernel_rfl) (by kernel_rfl) (Try.call53 _ _) (vget_any SA w84 tb KA (putsF f ts (l.take k)) y66.1 hO112) (by rintro e x ⟨v, b, h0, h⟩; exact ⟨_, h0, v, b, rfl, h⟩)) ?_ ?_; clear h107
       ·
        rintro _ _ ⟨vv113, bb114, rfl, hr115, hi116, rfl⟩
        exact ⟨hB97, hk100, hk101⟩
       rintro _ _ a108 ⟨vv113, bb114, rfl, hr115, hi116, rfl⟩ h108
       refine dk0 7 (v := .tuple #[.slice vv113.a vv113.n vv113.c, .bool bb114]) h108 rfl rfl ⟨hB97, hk100, hk101⟩ fun a117 h117 => ?_; clear h108
       refine dk0 8 (v := .slice vv113.a vv113.n vv113.c) h117 rfl rfl ⟨hB97, hk100, hk101⟩ fun a118 h118 => ?_; clear h117
       refine dk0 9 (v := .bool bb114) h118 rfl rfl ⟨hB97, hk100, hk101⟩ fun a119 h119 => ?_; clear h118
       refine dk0 10 (v := .slice vv113.a vv113.n vv113.c) h119 rfl rfl ⟨hB97, hk100, hk101⟩ fun a120 h120 => ?_; clear h119
       refine dk0 11 (v := .bool bb114) h120 rfl rfl ⟨hB97, hk100, hk101⟩ fun a121 h121 => ?_; clear h120
       refine dr_done (by kernel_rfl) ?_
       refine co_then ?_
       refine co_seq ?_
       refine co_reg ?_
       refine pk0 (v := .slice vv113.a vv113.n vv113.c) h121 rfl fun a122 h122 => ?_; clear h121
       refine pk0 (v := .int .u64 ts) h122 rfl fun a123 h123 => ?_; clear h122
       refine pk0 (v := pt N71 1) h123 rfl fun a124 h124 => ?_; clear h123
       refine pk (v := .string y66.2.1) h124 rfl (rn_load1 rfl rfl Try.isAgg9 (hk101.cell rfl)) fun a125 h125 => ?_; clear h124
       refine pk0 (v := pt N71 2) h125 rfl fun a126 h126 => ?_; clear h125
       refine pk (v := .bool y66.2.2) h126 rfl (rn_load1 rfl rfl Try.isAgg4 (hk101.cell rfl)) fun a127 h127 => ?_; clear h126
       refine pk0 (v := .agg #[.int .u64 ts, .string y66.2.1, .bool y66.2.2]) h127 rfl fun a128 h128 => ?_; clear h127
       have hm131 := mv_now hF hup hy66 hlt9 hn
       refine pw h128 rfl (op_call (args := #[.slice vv113.a vv113.n vv113.c, .agg #[.int .u64 ts, .string y66.2.1, .bool y66.2.2]]) (R := fun res xw => ∃ v' : SlT, ∃ S' : Nat → Prop, res = .tuple #[.slice v'.a v'.n v'.c, .int .i64 0] ∧ VkO S' xw tb KA (putsF f ts (l.take k)) ∧ (xw.ownsRow 0 99 3 (.slice v'.a v'.n v'.c) (((putsF f ts (l.take k)) y66.1) ++ [(ts, y66.2.1, y66.2.2)]).length ((((putsF f ts (l.take k)) y66.1) ++ [(ts, y66.2.1, y66.2.2)]).flatMap cellE)) ∧ (∀ g, (Value.slice v'.a v'.n v'.c).ownBlock = some g → S' g) ∧ Grew SA S' w84 xw) rfl rfl rfl (by kernel_rfl) (by kernel_rfl) (Try.call71 _ _) (vvput_any SA w84 tb KA (putsF f ts (l.take k)) vv113 ((putsF f ts (l.take k)) y66.1) (ts, y66.2.1, y66.2.2) hO112 (row_sl hr115 cellE_len) hm131.1 (by show (0 : Int) < ts; have := hlt9; have := hla; omega) hm131.2) (by rintro e x ⟨v', S', h0, h⟩; exact ⟨_, h0, v', S', rfl, h⟩)) ?_; clear h128
       rintro _ w130 a129 ⟨v'132, S133, rfl, hO134, hq136, hq137, hx135⟩ h129
       have hB138 := fbU_foot hB97 hx135.but (fun i hi hq => by rcases hinA i hq with k | k; exact k; omega)
       have hz139 := hB138.size
       have hz140 := hx135.but.size
       have hin141 : ∀ q, S133 q → (q = b ∨ S q) ∨ w.heap.size ≤ q := fun q hq => by rcases hx135.sub q hq with k | k; exact hinA q k; exact .inr (by omega)
       refine pk0 (v := .tuple #[.slice v'132.a v'132.n v'132.c, .int .i64 0]) h129 rfl fun a142 h142 => ?_; clear h129
       refine pk0 (v := .slice v'132.a v'132.n v'132.c) h142 rfl fun a143 h143 => ?_; clear h142
       refine pk0 (v := .int .i64 0) h143 rfl fun a144 h144 => ?_; clear h143
       refine pk0 (v := .slice v'132.a v'132.n v'132.c) h144 rfl fun a145 h145 => ?_; clear h144
       refine pk0 (v := .int .i64 0) h145 rfl fun a146 h146 => ?_; clear h145
       refine pl_nil ?_
       refine co_then ?_
       refine co_seq ?_
       refine dr_gen (fun x => But (fun q => q = b ∨ S q) w x ∧ Blk x b 92 #[.bool true, pt tb 0, .int .u64 la, .int .i64 ca] ∧ Blk x N71 74 #[.string y66.1, .string y66.2.1, .bool y66.2.2]) (by kernel_rfl) (fun w147 hg148 => ?_) (fun w147 hg148 => ?_)
       ·
        have hz149 := hg148.size
        have hB150 := fbU_new hB138 hg148
        have hk151 := Blk.butS hk100 hx135.but hofA
        have hk152 := hk151.kept hg148 (by simp)
        have hk153 := Blk.butS hk101 hx135.but ho77
        have hk154 := hk153.kept hg148 (by simp)
        exact ⟨hB150, hk152, hk154⟩
       have hz155 := hg148.size
       have hB156 := fbU_new hB138 hg148
       have hk157 := Blk.butS hk100 hx135.but hofA
       have hk158 := hk157.kept hg148 (by simp)
       have hk159 := Blk.butS hk101 hx135.but ho77
       have hk160 := hk159.kept hg148 (by simp)
       refine dk0 0 (v := pt b 0) h146 rfl rfl ⟨hB156, hk158, hk160⟩ fun a161 h161 => ?_; clear h146
       refine dk0 1 (v := pt b 0) h161 rfl rfl ⟨hB156, hk158, hk160⟩ fun a162 h162 => ?_; clear h161
       refine dk0 2 (v := pt b 1) h162 rfl rfl ⟨hB156, hk158, hk160⟩ fun a163 h163 => ?_; clear h162
       refine dk 3 (v := pt tb 0) h163 rfl rfl ⟨hB156, hk158, hk160⟩ (fun x hx => (rn_load1 rfl rfl Try.isAgg88 (hx.2.1.cell rfl))) fun a164 h164 => ?_; clear h163
       refine dk0 4 (v := pt N71 0) h164 rfl rfl ⟨hB156, hk158, hk160⟩ fun a165 h165 => ?_; clear h164
       refine dk 5 (v := .string y66.1) h165 rfl rfl ⟨hB156, hk158, hk160⟩ (fun x hx => (rn_load1 rfl rfl Try.isAgg9 (hx.2.2.cell rfl))) fun a166 h166 => ?_; clear h165
       refine dk0 6 (v := .slice v'132.a v'132.n v'132.c) h166 rfl rfl ⟨hB156, hk158, hk160⟩ fun a167 h167 => ?_; clear h166
       have hO170 := VkO.gr hO134 hg148 (fun k e => by cases e)
       have hr171 := row_kept_new hq136 hg148
       refine d1 7 h167 rfl rfl (op_call (args := #[pt tb 0, .string y66.1, .slice v'132.a v'132.n v'132.c]) (R := fun res xw => ∃ b' : Bool, ∃ S' : Nat → Prop, res = .bool b' ∧ VkO S' xw tb (insY KA y66.1) (upd (putsF f ts (l.take k)) y66.1 (((putsF f ts (l.take k)) y66.1) ++ [(ts, y66.2.1, y66.2.2)])) ∧ Grew S133 S' w147 xw) rfl rfl rfl (by kernel_rfl) (by kernel_rfl) (Try.call72 _ _) (vput_any S133 w147 tb KA (putsF f ts (l.take k)) y66.1 v'132 (((putsF f ts (l.take k)) y66.1) ++ [(ts, y66.2.1, y66.2.2)]) hO170 hr171 hq137 (by simp) (by omega)) (by rintro e x ⟨b', S', h0, h⟩; exact ⟨_, h0, b', S', rfl, h⟩)) ?_ ?_; clear h167
       ·
        rintro _ w169 ⟨b'172, S173, rfl, hO174, hx175⟩
        have hB176 := fbU_foot hB156 hx175.but (fun i hi hq => by rcases hin141 i hq with k | k; exact k; omega)
        have hz177 := hB176.size
        have hz178 := hx175.but.size
        have hin179 : ∀ q, S173 q → (q = b ∨ S q) ∨ w.heap.size ≤ q := fun q hq => by rcases hx175.sub q hq with k | k; exact hin141 q k; exact .inr (by omega)
        have hl180 := len_insY KA y66.1
        have hk181 := Blk.butS hk158 hx175.but (Grew.off hx135 hofA hk100.lt)
        have hk182 := Blk.butS hk160 hx175.but (Grew.off hx135 ho77 hk101.lt)
        exact ⟨hB176, hk181, hk182⟩
       rintro _ w169 a168 ⟨b'172, S173, rfl, hO174, hx175⟩ h168
       have hB176 := fbU_foot hB156 hx175.but (fun i hi hq => by rcases hin141 i hq with k | k; exact k; omega)
       have hz177 := hB176.size
       have hz178 := hx175.but.size
       have hin179 : ∀ q, S173 q → (q = b ∨ S q) ∨ w.heap.size ≤ q := fun q hq => by rcases hx175.sub q hq with k | k; exact hin141 q k; exact .inr (by omega)
       have hl180 := len_insY KA y66.1
       refine dr_done (by kernel_rfl) ?_
       refine co_then ?_
       refine co_reg ?_
       refine pk0 (v := pt b 0) h168 rfl fun a181 h181 => ?_; clear h168
       refine pk0 (v := pt b 0) h181 rfl fun a182 h182 => ?_; clear h181
       refine pk0 (v := pt b 3) h182 rfl fun a183 h183 => ?_; clear h182
       have hk184 := Blk.butS hk158 hx175.but (Grew.off hx135 hofA hk100.lt)
       refine pk (v := .int .i64 ca) h183 rfl (rn_load1 rfl rfl Try.isAgg3 (hk184.cell rfl)) fun a185 h185 => ?_; clear h183
       refine pk (v := .int .i64 (ca + 1)) h185 rfl (rn_arith rfl rfl rfl rfl rfl rfl (IntWalk.i64_in _ (by omega))) fun a186 h186 => ?_; clear h185
       refine pk0 (v := pt b 0) h186 rfl fun a187 h187 => ?_; clear h186
       refine pk0 (v := pt b 3) h187 rfl fun a188 h188 => ?_; clear h187
       refine pwD h188 rfl (op_store1 rfl rfl rfl rfl Try.sizeOf3 hk184 rfl) ?_; clear h188
       rintro _ w190 a189 ⟨hk191, hz192, hg193⟩ h189
       have hk191' : Blk w190 b 92 #[.bool true, pt tb 0, .int .u64 la, .int .i64 (ca + 1)] := hk191; clear hk191
       have hz194 := hg193.size
       refine pl_nil ?_
       refine co_blockN ?_
       refine co_then ?_
       refine co_reg ?_
       refine pk (v := .int .i64 ((k + 1 : Nat) : Int)) h189 rfl (rn_arith' rfl rfl rfl rfl rfl rfl (IntWalk.i64_in _ (by omega)) (by omega)) fun a195 h195 => ?_; clear h189
       refine pk0 (v := .int .i64 ((k + 1 : Nat) : Int)) h195 rfl fun a196 h196 => ?_; clear h195
       refine pl_nil ?_
       refine co_then ?_
       refine ⟨(l.length - (k + 1)), by omega, ?_⟩
       have hin9 := hin179
       have hof9 := (Grew.off hx175 (Grew.off hx135 hofA hk100.lt) hk158.lt)
       have hO197 := VkO.gr hO174 hg193 (fun k e => by cases e; exact (Grew.off hx175 (Grew.off hx135 hofA hk100.lt) hk158.lt))
       have hB198 := fbU_at hB176 hg193 (fun hlt => by rcases hinb with hq | hq; exact hq; omega)
       exact ⟨k + 1, S173, (insY KA y66.1), (ca + 1), h196.sub ⟨rfl, rfl, rfl, rfl, rfl, rfl, trivial⟩, rfl, by omega, by exact hin9, by exact hof9, by omega, by omega, hk191', (by rw [mv_take (by assumption)]; exact hO197), hB198⟩
   ·
    rw [hc27] at h26
    have hp199 : (chkB 0 1 l) ≠ 0 := by first | simpa using hc27 | simpa [and_assoc] using hc27
    clear hc27
    refine co_true h26 rfl ?_
    refine co_seq ?_
    refine co_reg ?_
    refine pk0 (v := .int .i64 (chkB 0 1 l)) h26 rfl fun a200 h200 => ?_; clear h26
    refine pk0 (v := .int .i64 (chkB 0 1 l)) h200 rfl fun a201 h201 => ?_; clear h200
    refine pl_nil ?_
    refine co_then ?_
    refine wp_ret ?_
    refine co_thenR ?_
    refine co_ret1 h201 rfl rfl ?_
    have hk202 := hB.below hb21
    have hO203 := VkO.gr hV (below_grown hb21) (fun k e => by cases e)
    have hE : mvE la ts l = (chkB 0 1 l) := mvE_c (by omega) (by omega)
    have hz9 : ¬ mvE la ts l = 0 := by rw [hE]; omega
    exact ⟨_, _, by rw [hE], by unfold mvLa mvCe; rw [if_neg hz9, if_neg hz9]; exact hk202, by unfold mvF; rw [if_neg hz9]; exact hO203, hinS, hSb, by omega, hB28⟩
  ·
   rw [hc15] at h14
   have hp204 : ts ≤ la := of_decide_eq_true hc15
   clear hc15
   refine co_true h14 rfl ?_
   refine co_seq ?_
   refine co_reg ?_
   refine pk0 (v := .int .i64 18) h14 rfl fun a205 h205 => ?_; clear h14
   refine pl_nil ?_
   refine co_then ?_
   refine wp_ret ?_
   refine co_thenR ?_
   refine co_ret1 h205 rfl rfl ?_
   have hE : mvE la ts l = 18 := mvE_b (by omega) (by omega)
   have hz9 : ¬ mvE la ts l = 0 := by rw [hE]; omega
   exact ⟨_, _, by rw [hE], by unfold mvLa mvCe; rw [if_neg hz9, if_neg hz9]; exact hB, by unfold mvF; rw [if_neg hz9]; exact hV, hinS, hSb, by omega, hB0⟩
 ·
  rw [hc7] at h6
  have hp206 : ts = 0 := by first | simpa using hc7 | simpa [and_assoc] using hc7
  clear hc7
  refine co_true h6 rfl ?_
  refine co_seq ?_
  refine co_reg ?_
  refine pk0 (v := .int .i64 5) h6 rfl fun a207 h207 => ?_; clear h6
  refine pl_nil ?_
  refine co_then ?_
  refine wp_ret ?_
  refine co_thenR ?_
  refine co_ret1 h207 rfl rfl ?_
  have hE : mvE la ts l = 5 := mvE_a (by omega)
  have hz9 : ¬ mvE la ts l = 0 := by rw [hE]; omega
  exact ⟨_, _, by rw [hE], by unfold mvLa mvCe; rw [if_neg hz9, if_neg hz9]; exact hB, by unfold mvF; rw [if_neg hz9]; exact hV, hinS, hSb, by omega, hB0⟩
end Go.Proofs.Ytkjnhghniopnoaa

/- Package mvcc: Scan. Conditions: at most 70000 keys, 800 versions each. -/
namespace Go.Proofs.Ytkjnhghniopnoaa
open Go.RowKit Go.PlainAid
set_option linter.unusedVariables false
set_option linter.unusedSimpArgs false


section
variable {Q : Exit → Act → World → Prop} {a : Act} {w : World}
theorem co_scopeR (h : Q .ret a w) : Exit.noGoto Q .ret a w := h
end
abbrev PairT := ByteArray × ByteArray
def pairE (p : PairT) : List Value := [.string p.1, .string p.2]
theorem pairE_len (p : PairT) : (pairE p).length = 2 := rfl
def hits (f : Fv) (t : Int) (ks : List ByteArray) : List PairT := (ks.filter (fun k => (atS (f k) t).2)).map (fun k => (k, (atS (f k) t).1))
def scanL (H : List PairT) (most : Int) : List PairT := H.take most.toNat
def scanM (H : List PairT) (most : Int) : Bool := decide (most.toNat < H.length)
section
variable {f : Fv} {t most : Int} {ks : List ByteArray} {k : Nat} {y : ByteArray}
theorem hits_yes (hy : ks[k]? = some y) (h : (atS (f y) t).2 = true) : hits f t (ks.take k) ++ [(y, (atS (f y) t).1)] = hits f t (ks.take (k + 1)) := by
  unfold hits; rw [takeO_at hy, List.filter_append, List.map_append]; simp [List.filter_cons, h]
theorem hits_no (hy : ks[k]? = some y) (h : (atS (f y) t).2 = false) : hits f t (ks.take k) = hits f t (ks.take (k + 1)) := by
  unfold hits; rw [takeO_at hy, List.filter_append, List.map_append]; simp [List.filter_cons, h]
theorem hits_le : (hits f t (ks.take k)).length ≤ k := by
  unfold hits; rw [List.length_map]; exact Nat.le_trans (List.length_filter_le _ _) (by rw [List.length_take]; omega)
theorem scan_all {H : List PairT} (h : H = [] ∨ (H.length : Int) ≤ most) : H = scanL H most ∧ scanM H most = false := by
  unfold scanL scanM
  rcases h with rfl | h
  · simp
  · exact ⟨(List.take_of_length_le (by omega)).symm, decide_eq_false (by omega)⟩
theorem scan_cut (hy : ks[k]? = some y) (h : (atS (f y) t).2 = true) (hl : ¬ ((hits f t (ks.take k)).length : Int) < most) (hm : hits f t (ks.take k) = [] ∨ ((hits f t (ks.take k)).length : Int) ≤ most) : hits f t (ks.take k) = scanL (hits f t ks) most ∧ scanM (hits f t ks) most = true := by
  have e : hits f t ks = hits f t (ks.take k) ++ (y, (atS (f y) t).1) :: hits f t (ks.drop (k + 1)) := by
    have e1 : ks = ks.take (k + 1) ++ ks.drop (k + 1) := (List.take_append_drop _ _).symm
    have e2 : hits f t ks = hits f t (ks.take (k + 1)) ++ hits f t (ks.drop (k + 1)) := by
      conv => lhs; rw [e1]
      unfold hits; rw [List.filter_append, List.map_append]
    rw [e2, ← hits_yes hy h]; simp
  have hn : most.toNat = (hits f t (ks.take k)).length := by
    rcases hm with hm | hm
    · rw [hm] at hl ⊢; simp at hl ⊢; omega
    · omega
  unfold scanL scanM
  rw [hn, e]
  exact ⟨by simp, decide_eq_true (by simp)⟩
end

set_option maxRecDepth 100000 in
set_option maxHeartbeats 3200000 in
theorem mscan_blk (S : Nat → Prop) (b : Nat) (tb : Nat) (K : List ByteArray) (f : Fv) (la : Int) (ce : Int) (n : Nat) (F : ByteArray) (T : ByteArray) (t : Int) (most : Int) (w : World) (hB : Blk w b 92 #[.bool true, pt tb 0, .int .u64 la, .int .i64 ce]) (hV : VkO S w tb K f) (hSb : ¬ S b) (hF : FOk f la n) (hn : n ≤ 800) (hla : 0 ≤ la ∧ la < 18446744073709551616) (hce : -100000000000 ≤ ce ∧ ce ≤ 100000000000) (hK : K.length ≤ 70000) (hmost : -9223372036854775808 ≤ most ∧ most ≤ 9223372036854775807) :
    Calls Try.prog 18 #[pt b 0, .string F, .string T, .int .u64 t, .int .i64 most] w fun e w' => ∃ (u : Value), e = .returned (.tuple #[u, .bool (scanM (hits f t (K.filter (inR F T))) most)]) ∧ w'.ownsRow w.heap.size 101 2 u (scanL (hits f t (K.filter (inR F T))) most).length ((scanL (hits f t (K.filter (inR F T))) most).flatMap pairE) ∧ Below w.heap.size w w' := by
 have hB0 := Below.refl w.heap.size w
 have hl_hB := hB.lt
 have hofS := VkO.ofS hV
 refine co_enter (n := 54) Try.func18 rfl rfl rfl [(0, pt b 0), (1, .string F), (2, .string T), (3, .int .u64 t), (4, .int .i64 most)] rfl (fun a h0 => ?_)
 refine co_seq ?_
 refine co_reg ?_
 refine pk0 (v := .slice none 0 0) h0 rfl fun a1 h1 => ?_; clear h0
 refine pk0 (v := .bool false) h1 rfl fun a2 h2 => ?_; clear h1
 refine pl_nil ?_
 refine co_then ?_
 refine wp_scope_straight ?_
 refine co_seq ?_
 refine co_seq ?_
 refine co_reg ?_
 refine pk0 (v := pt b 0) h2 rfl fun a3 h3 => ?_; clear h2
 refine pw h3 rfl (op_call (args := #[pt b 0]) (R := fun res xw => res = .bool false ∧ w = xw) rfl rfl rfl (by kernel_rfl) (by kernel_rfl) (Try.call47 _ _) (mzero_any b (pt tb 0) (.int .u64 la) (.int .i64 ce) w hB) (by rintro e x ⟨rfl, rfl⟩; exact ⟨_, rfl, rfl, rfl⟩)) ?_; clear h3
 rintro _ _ a4 ⟨rfl, rfl⟩ h4
 refine pl_nil ?_
 refine co_then ?_
 refine co_false h4 rfl ?_
 refine wp_skip ?_
 refine co_then ?_
 refine co_seq ?_
 refine co_reg ?_
 refine pk0 (v := .slice none 0 0) h4 rfl fun a6 h6 => ?_; clear h4
 refine pl_nil ?_
 refine co_then ?_
 refine co_seq ?_
 refine co_reg ?_
 refine pk0 (v := .bool false) h6 rfl fun a7 h7 => ?_; clear h6
 refine pl_nil ?_
 refine co_then ?_
 refine co_seq ?_
 refine wp_label ?_
 refine co_then ?_
 refine co_seq ?_
 refine co_seq ?_
 refine co_reg ?_
 refine pk0 (v := pt b 0) h7 rfl fun a8 h8 => ?_; clear h7
 refine pk0 (v := pt b 0) h8 rfl fun a9 h9 => ?_; clear h8
 refine pk0 (v := pt b 1) h9 rfl fun a10 h10 => ?_; clear h9
 refine pk (v := pt tb 0) h10 rfl (rn_load1 rfl rfl Try.isAgg88 (hB.cell rfl)) fun a11 h11 => ?_; clear h10
 refine pk0 (v := .string F) h11 rfl fun a12 h12 => ?_; clear h11
 refine pk0 (v := .string T) h12 rfl fun a13 h13 => ?_; clear h12
 have ho21 := VkO.ofS hV
 refine pw h13 rfl (op_call (args := #[pt tb 0, .string F, .string T]) (R := fun res xw => ∃ (ao : Option Addr) (nn cap : Nat), res = .slice ao nn cap ∧ xw.ownsRow w.heap.size 9 1 (.slice ao nn cap) (K.filter (inR F T)).length ((K.filter (inR F T)).flatMap strE) ∧ Below w.heap.size w xw) rfl rfl rfl (by kernel_rfl) (by kernel_rfl) (Try.call48 _ _) (vkeys2_any S w tb K f F T hV (by omega)) (by rintro e x ⟨ao, nn, cap, h0, h⟩; exact ⟨_, h0, ao, nn, cap, rfl, h⟩)) ?_; clear h13
 rintro _ w15 a14 ⟨ao16, nn17, cp18, rfl, hr19, hb20⟩ h14
 have hz22 := hb20.size
 have ho23 := VkO.ofS hV
 have hl24 : (K.filter (inR F T)).length ≤ K.length := List.length_filter_le _ _
 refine pk (v := .int .i64 (((K.filter (inR F T)).length : Nat) : Int)) h14 rfl (rn_lenOwn rfl rfl Try.underlying103 hr19) fun a25 h25 => ?_; clear h14
 refine pk0 (v := .int .i64 0) h25 rfl fun a26 h26 => ?_; clear h25
 refine pl_nil ?_
 refine co_then ?_
 refine wp_block ?_
 have h27 : Slots 54 [(0, pt b 0), (1, .string F), (2, .string T), (3, .int .u64 t), (4, .int .i64 most), (12, .slice none 0 0), (13, .bool false), (26, .slice ao16 nn17 cp18), (27, .int .i64 (((K.filter (inR F T)).length : Nat) : Int)), (28, .int .i64 0)] _ := h26.sub ⟨rfl, rfl, rfl, rfl, rfl, rfl, rfl, rfl, rfl, rfl, trivial⟩; clear h26
 refine co_loop (fun mm a x => ∃ (k : Nat) (u : Value), Slots 54 [(0, pt b 0), (1, .string F), (2, .string T), (3, .int .u64 t), (4, .int .i64 most), (12, u), (13, .bool false), (26, .slice ao16 nn17 cp18), (27, .int .i64 (((K.filter (inR F T)).length : Nat) : Int)), (28, .int .i64 ((k : Nat) : Int))] a ∧ mm = (K.filter (inR F T)).length - k ∧ (k ≤ (K.filter (inR F T)).length) ∧ ((hits f t ((K.filter (inR F T)).take k)) = [] ∨ ((hits f t ((K.filter (inR F T)).take k)).length : Int) ≤ most) ∧ Blk x b 92 #[.bool true, pt tb 0, .int .u64 la, .int .i64 ce] ∧ VkO S x tb K f ∧ x.ownsRow w.heap.size 9 1 (.slice ao16 nn17 cp18) (K.filter (inR F T)).length ((K.filter (inR F T)).flatMap strE) ∧ x.ownsRow w.heap.size 101 2 u (hits f t ((K.filter (inR F T)).take k)).length ((hits f t ((K.filter (inR F T)).take k)).flatMap pairE) ∧ Below w.heap.size w x) ((K.filter (inR F T)).length - 0) ?_ ?_
 have hk28 := hB.below hb20
 have hO29 := VkO.gr hV (below_grown hb20) (fun k e => by cases e)
 have hB30 := hb_call hB0 hb20
 · exact ⟨0, (.slice none 0 0), h27.sub ⟨rfl, rfl, rfl, rfl, rfl, rfl, rfl, rfl, rfl, (slot_eq rfl (congrArg (Value.int .i64) (by first | rfl | omega))), trivial⟩, rfl, by omega, by first | exact .inl rfl | (rw [← hits_yes (by assumption) (by assumption)]; right; rw [List.length_append, List.length_singleton]; omega) | (rw [← hits_no (by assumption) (by assumption)]; assumption), hk28, hO29, hr19, (row_nilL _ _ _ _ _), hB30⟩
 · rintro k31 a32 w33 ⟨k, u, h32, rfl, hi34, hi35, hf36, hf37, hf38, hf39, hB40⟩
   have hz41 := hB40.size
   have hl42 := hf36.lt
   have hhl := hits_le (f := f) (t := t) (ks := (K.filter (inR F T))) (k := k)
   refine co_seq ?_
   refine co_reg ?_
   refine pk0 (v := .bool (decide (((k : Nat) : Int) < (((K.filter (inR F T)).length : Nat) : Int)))) h32 rfl fun a43 h43 => ?_; clear h32
   refine pl_nil ?_
   refine co_then ?_
   refine co_seq ?_
   cases hc44 : (decide (((k : Nat) : Int) < (((K.filter (inR F T)).length : Nat) : Int)))
   ·
    rw [hc44] at h43
    have hp45 : ¬ (((k : Nat) : Int) < (((K.filter (inR F T)).length : Nat) : Int)) := of_decide_eq_false hc44
    clear hc44
    refine co_false h43 rfl ?_
    refine wp_exit ?_
    refine co_thenX ?_
    refine co_thenX ?_
    refine co_blockX ?_
    refine co_then ?_
    refine co_seq ?_
    refine co_reg ?_
    refine pk0 (v := u) h43 rfl fun a46 h46 => ?_; clear h43
    refine pk0 (v := .bool false) h46 rfl fun a47 h47 => ?_; clear h46
    refine pk0 (v := u) h47 rfl fun a48 h48 => ?_; clear h47
    refine pk0 (v := .bool false) h48 rfl fun a49 h49 => ?_; clear h48
    refine pl_nil ?_
    refine co_then ?_
    refine wp_ret ?_
    refine co_scopeR ?_
    refine co_ret2 h49 rfl rfl rfl ?_
    have hk9 : (K.filter (inR F T)).take k = (K.filter (inR F T)) := List.take_of_length_le (by omega); have hq := scan_all (most := most) (H := hits f t ((K.filter (inR F T)).take k)) (by assumption); rw [hk9] at hq
    exact ⟨_, by rw [hq.2], row_eq hf39 (by rw [hk9]; exact hq.1), hB40⟩
   ·
    rw [hc44] at h43
    have hp50 : ((k : Nat) : Int) < (((K.filter (inR F T)).length : Nat) : Int) := of_decide_eq_true hc44
    clear hc44
    refine co_true h43 rfl ?_
    refine wp_skip ?_
    refine co_then ?_
    refine co_seq ?_
    refine wp_block ?_
    refine co_seq ?_
    refine co_reg ?_
    obtain ⟨y51, hy51⟩ : ∃ z, (K.filter (inR F T))[k]? = some z := ⟨_, List.getElem?_eq_getElem (by first | omega | (simp; done) | (simp; omega))⟩
    refine pk (v := pt (blkOf (.slice ao16 nn17 cp18)) (offOf (.slice ao16 nn17 cp18) + k * 1)) h43 rfl (rn_index rfl rfl rfl Try.underlying103 Try.sizeOf9 (row_sl hf38 strE_len) (by omega) (by first | omega | (simp; done) | (simp; omega))) fun a52 h52 => ?_; clear h43
    refine pk (v := .string y51) h52 rfl (rn_load1 rfl rfl Try.isAgg9 ((sl_at (row_sl hf38 strE_len) hy51) 0 _ rfl)) fun a53 h53 => ?_; clear h52
    refine pk0 (v := .string y51) h53 rfl fun a54 h54 => ?_; clear h53
    refine pl_nil ?_
    refine co_then ?_
    refine co_seq ?_
    refine co_reg ?_
    refine pk0 (v := pt b 0) h54 rfl fun a55 h55 => ?_; clear h54
    refine pk0 (v := .string y51) h55 rfl fun a56 h56 => ?_; clear h55
    refine pk0 (v := .int .u64 t) h56 rfl fun a57 h57 => ?_; clear h56
    refine pw h57 rfl (op_call (args := #[pt b 0, .string y51, .int .u64 t]) (R := fun res xw => res = .tuple #[.string (atS (f y51) t).1, .bool (atS (f y51) t).2] ∧ Below w33.heap.size w33 xw) rfl rfl rfl (by kernel_rfl) (by kernel_rfl) (Try.call28 _ _) (mget_blk b tb (.int .u64 la) (.int .i64 ce) S K f y51 t la n w33 hf36 hf37 hF) (by rintro e x ⟨rfl, h⟩; exact ⟨_, rfl, rfl, h⟩)) ?_; clear h57
    rintro _ w59 a58 ⟨rfl, hb60⟩ h58
    have hz61 := hb60.size
    have ho62 := VkO.ofS hf37
    refine pk0 (v := .tuple #[.string ((atS (f y51) t).1), .bool ((atS (f y51) t).2)]) h58 rfl fun a63 h63 => ?_; clear h58
    refine pk0 (v := .string ((atS (f y51) t).1)) h63 rfl fun a64 h64 => ?_; clear h63
    refine pk0 (v := .bool ((atS (f y51) t).2)) h64 rfl fun a65 h65 => ?_; clear h64
    refine pk0 (v := .string ((atS (f y51) t).1)) h65 rfl fun a66 h66 => ?_; clear h65
    refine pk0 (v := .bool ((atS (f y51) t).2)) h66 rfl fun a67 h67 => ?_; clear h66
    refine pl_nil ?_
    refine co_then ?_
    refine co_seq ?_
    refine co_seq ?_
    refine co_reg ?_
    refine pk0 (v := .bool ((atS (f y51) t).2)) h67 rfl fun a68 h68 => ?_; clear h67
    have hB70 := hb_call hB40 hb60
    cases hc69 : ((atS (f y51) t).2)
    ·
     rw [hc69] at h68
     refine pk0 (v := .bool true) h68 rfl fun a71 h71 => ?_; clear h68
     refine pl_nil ?_
     refine co_then ?_
     refine co_true h71 rfl ?_
     refine wp_exit ?_
     refine co_thenX ?_
     refine co_blockX ?_
     refine co_then ?_
     refine co_reg ?_
     refine pk (v := .int .i64 ((k + 1 : Nat) : Int)) h71 rfl (rn_arith' rfl rfl rfl rfl rfl rfl (IntWalk.i64_in _ (by omega)) (by omega)) fun a72 h72 => ?_; clear h71
     refine pk0 (v := .int .i64 ((k + 1 : Nat) : Int)) h72 rfl fun a73 h73 => ?_; clear h72
     refine pl_nil ?_
     refine co_then ?_
     refine ⟨((K.filter (inR F T)).length - (k + 1)), by omega, ?_⟩
     have hk74 := hf36.below hb60
     have hO75 := VkO.gr hf37 (below_grown hb60) (fun k e => by cases e)
     have hr76 := row_kept_new hf38 (below_grown hb60)
     have hr77 := row_kept_new hf39 (below_grown hb60)
     exact ⟨k + 1, u, h73.sub ⟨rfl, rfl, rfl, rfl, rfl, rfl, rfl, rfl, rfl, rfl, trivial⟩, rfl, by omega, by first | exact .inl rfl | (rw [← hits_yes (by assumption) (by assumption)]; right; rw [List.length_append, List.length_singleton]; omega) | (rw [← hits_no (by assumption) (by assumption)]; assumption), hk74, hO75, hr76, (row_eq hr77 (by first | rfl | exact hits_yes (by assumption) (by assumption) | exact hits_no (by assumption) (by assumption) | exact hits_no (by assumption) (by simpa using (by assumption)))), hB70⟩
    ·
     rw [hc69] at h68
     refine pk0 (v := .bool false) h68 rfl fun a78 h78 => ?_; clear h68
     refine pl_nil ?_
     refine co_then ?_
     refine co_false h78 rfl ?_
     refine wp_skip ?_
     refine co_then ?_
     refine co_seq ?_
     refine co_seq ?_
     refine co_reg ?_
     refine pk0 (v := u) h78 rfl fun a79 h79 => ?_; clear h78
     have hr80 := row_kept_new hf39 (below_grown hb60)
     refine pk (v := .int .i64 (((hits f t ((K.filter (inR F T)).take k)).length : Nat) : Int)) h79 rfl (rn_lenOwn rfl rfl Try.underlying58 hr80) fun a81 h81 => ?_; clear h79
     refine pk0 (v := .int .i64 most) h81 rfl fun a82 h82 => ?_; clear h81
     refine pk0 (v := .bool (decide ((((hits f t ((K.filter (inR F T)).take k)).length : Nat) : Int) ≥ most))) h82 rfl fun a83 h83 => ?_; clear h82
     refine pl_nil ?_
     refine co_then ?_
     cases hc84 : (decide ((((hits f t ((K.filter (inR F T)).take k)).length : Nat) : Int) ≥ most))
     ·
      rw [hc84] at h83
      have hp85 : ¬ ((((hits f t ((K.filter (inR F T)).take k)).length : Nat) : Int) ≥ most) := of_decide_eq_false hc84
      clear hc84
      refine co_false h83 rfl ?_
      refine wp_skip ?_
      refine co_then ?_
      refine co_reg ?_
      refine pk0 (v := u) h83 rfl fun a86 h86 => ?_; clear h83
      refine pk0 (v := .string y51) h86 rfl fun a87 h87 => ?_; clear h86
      refine pk0 (v := .string ((atS (f y51) t).1)) h87 rfl fun a88 h88 => ?_; clear h87
      refine pk0 (v := .agg #[.string y51, .string ((atS (f y51) t).1)]) h88 rfl fun a89 h89 => ?_; clear h88
      refine pw h89 rfl (op_new (v := fun N => .slice (some ⟨N, 0, none⟩) 1 1) (T := 101) (cs := #[.string y51, .string ((atS (f y51) t).1)]) (by kernel_rfl) (by kernel_rfl) (by kernel_rfl)) ?_; clear h89
      rintro _ w91 a90 ⟨N92, rfl, hN95, hz96, hk94, hg93⟩ h90
      have hr98 := row_kept_new hf38 (below_grown hb60)
      have ha97 := row_fresh hr98 hN95
      have ha99 := row_fresh hr80 hN95
      have hz100 := hg93.size
      have hO102 := VkO.gr hf37 (below_grown hb60) (fun k e => by cases e)
      have ho101 := off_new (VkO.ofS hO102) hN95
      try dsimp only at h90
      have hr109 := row_kept_new hr80 hg93
      refine pw h90 rfl (op_append rfl w.heap.size 101 (z := .agg #[.string (⟨#[]⟩), .string (⟨#[]⟩)]) (size := 2) (bytes := 32) Try.underlying58 (by kernel_rfl) rfl rfl rfl hr109 rfl hk94 rfl (by kernel_rfl) (by first | omega | (simp only [List.length_nil, List.length_append, List.length_cons, List.length_take, List.length_drop]; omega)) (by first | omega | (simp only [List.length_nil, List.length_append, List.length_cons, List.length_take, List.length_drop]; omega)) (by omega)) ?_; clear h90
      rintro v105 w104 a103 ⟨hr106, hg107⟩ h103
      have hr106' : w104.ownsRow w.heap.size 101 2 v105 (((hits f t ((K.filter (inR F T)).take k)) ++ [(y51, (atS (f y51) t).1)]).length) (((hits f t ((K.filter (inR F T)).take k)) ++ [(y51, (atS (f y51) t).1)]).flatMap pairE) := row_push (y := (y51, (atS (f y51) t).1)) hr106 rfl rfl; clear hr106
      have hz110 := hg107.size
      refine pk0 (v := v105) h103 rfl fun a111 h111 => ?_; clear h103
      refine pl_nil ?_
      refine co_blockN ?_
      refine co_then ?_
      refine co_reg ?_
      refine pk (v := .int .i64 ((k + 1 : Nat) : Int)) h111 rfl (rn_arith' rfl rfl rfl rfl rfl rfl (IntWalk.i64_in _ (by omega)) (by omega)) fun a112 h112 => ?_; clear h111
      refine pk0 (v := .int .i64 ((k + 1 : Nat) : Int)) h112 rfl fun a113 h113 => ?_; clear h112
      refine pl_nil ?_
      refine co_then ?_
      refine ⟨((K.filter (inR F T)).length - (k + 1)), by omega, ?_⟩
      have hk114 := hf36.below hb60
      have hk115 := hk114.kept hg93 (by simp)
      have hk116 := hk115.kept hg107 (own_neT hr109 hk115 (by decide))
      have hO117 := VkO.gr hO102 hg93 (fun k e => by cases e)
      have hO118 := VkO.gr hO117 hg107 (fun k e => (offR_row hofS hr109 (Nat.le_refl _)) k e)
      have hr119 := row_kept_new hr98 hg93
      have hr120 := row_kept_row hr119 hr109 hg107 (by decide)
      have hB121 := hb_new hB70 hg93
      have hB122 := hb_row hB121 hr109 (by omega) hg107
      exact ⟨k + 1, v105, h113.sub ⟨rfl, rfl, rfl, rfl, rfl, rfl, rfl, rfl, rfl, rfl, trivial⟩, rfl, by omega, by first | exact .inl rfl | (rw [← hits_yes (by assumption) (by assumption)]; right; rw [List.length_append, List.length_singleton]; omega) | (rw [← hits_no (by assumption) (by assumption)]; assumption), hk116, hO118, hr120, (row_eq hr106' (by first | rfl | exact hits_yes (by assumption) (by assumption) | exact hits_no (by assumption) (by assumption) | exact hits_no (by assumption) (by simpa using (by assumption)))), hB122⟩
     ·
      rw [hc84] at h83
      have hp123 : (((hits f t ((K.filter (inR F T)).take k)).length : Nat) : Int) ≥ most := of_decide_eq_true hc84
      clear hc84
      refine co_true h83 rfl ?_
      refine co_seq ?_
      refine co_reg ?_
      refine pk0 (v := .bool true) h83 rfl fun a124 h124 => ?_; clear h83
      refine pl_nil ?_
      refine co_then ?_
      refine wp_exit ?_
      refine co_thenX ?_
      refine co_blockY (by decide) ?_
      refine co_thenX ?_
      refine co_thenX ?_
      refine co_blockX ?_
      refine co_then ?_
      refine co_seq ?_
      refine co_reg ?_
      refine pk0 (v := u) h124 rfl fun a125 h125 => ?_; clear h124
      refine pk0 (v := .bool true) h125 rfl fun a126 h126 => ?_; clear h125
      refine pk0 (v := u) h126 rfl fun a127 h127 => ?_; clear h126
      refine pk0 (v := .bool true) h127 rfl fun a128 h128 => ?_; clear h127
      refine pl_nil ?_
      refine co_then ?_
      refine wp_ret ?_
      refine co_scopeR ?_
      refine co_ret2 h128 rfl rfl rfl ?_
      have hq := scan_cut (most := most) (by assumption) (by assumption : (atS (f _) t).2 = true) (by omega) (by assumption)
      exact ⟨_, by rw [hq.2], row_eq hr80 hq.1, hB70⟩
end Go.Proofs.Ytkjnhghniopnoaa

/- Package mvcc: Prune. Conditions: at most 70000 keys, 800 versions each. -/
namespace Go.Proofs.Ytkjnhghniopnoaa
open Go.RowKit Go.PlainAid
set_option linter.unusedVariables false
set_option linter.unusedSimpArgs false


open Classical in
section
variable {f g : Fv} {h la : Int} {K A B : List ByteArray} {k n : Nat} {y : ByteArray}
open Classical in
end
theorem inR_all (K : List ByteArray) : K.filter (inR ⟨#[]⟩ ⟨#[]⟩) = K := List.filter_eq_self.2 fun k _ => by
  have e0 : (⟨#[]⟩ : ByteArray).toList = [] := by rw [Go.ByteArray.toList_eq]
  unfold inR hit
  rw [e0]
  cases hk : klt k ⟨#[]⟩ with
  | false => rfl
  | true =>
    exfalso
    have : ∀ l : List UInt8, Op.bytesLess l [] = false := fun l => by cases l <;> rfl
    have e : Op.bytesLess k.toList (⟨#[]⟩ : ByteArray).toList = true := hk
    rw [e0, this] at e; cases e
end Go.Proofs.Ytkjnhghniopnoaa

/- Package mvcc: the program's store as an object: New, Put, Prune, Get, Scan, Last, Cells; those that nobody made. Conditions: at most 100 calls, 20 operations each. -/
namespace Go.Proofs.Ytkjnhghniopnoaa
open Go.RowKit Go.PlainAid Go.Shelf
set_option linter.unusedVariables false

/-- The keys that have something, rising. -/
noncomputable def ksOf (f : Fv) : List ByteArray := open Classical in if h : ∃ K, KOf K f then h.choose else []
theorem ksOf_eq {f : Fv} {K : List ByteArray} (h : KOf K f) : ksOf f = K := by
  unfold ksOf; rw [dif_pos ⟨K, h⟩]; exact KOf.one (Exists.choose_spec (⟨K, h⟩ : ∃ K, KOf K f)) h
/-- A store that was made: what each key has, the last timestamp, the versions' number; m calls at most so far. -/
def MvO (S : Nat → Prop) (w : World) (b : Nat) (f : Fv) (la ce : Int) (m : Nat) : Prop :=
  ∃ (tb : Nat) (S1 : Nat → Prop) (K : List ByteArray), Blk w b 92 #[.bool true, pt tb 0, .int .u64 la, .int .i64 ce] ∧ VkO S1 w tb K f ∧ ¬ S1 b ∧ (∀ q, S q ↔ q = b ∨ S1 q) ∧ FOk f la m ∧ (0 ≤ la ∧ la < 18446744073709551616) ∧ K.length ≤ 20 * m ∧ (-100000000 * (m : Int) ≤ ce ∧ ce ≤ 100000000 * (m : Int))
section
variable {S D : Nat → Prop} {w x : World} {b m : Nat} {f : Fv} {la ce : Int}
theorem MvO.ofS (h : MvO S w b f la ce m) : ∀ q, S q → q < w.heap.size := fun q hq => by
  obtain ⟨tb, S1, K, h1, h2, h3, h4, _⟩ := h
  rcases (h4 q).1 hq with rfl | hq
  · exact h1.lt
  · exact h2.ofS q hq
theorem MvO.keep (h : MvO S w b f la ce m) (hk : ∀ q, S q → x.heap[q]? = w.heap[q]?) (hz : w.heap.size ≤ x.heap.size) : MvO S x b f la ce m := by
  obtain ⟨tb, S1, K, h1, h2, h3, h4, h5⟩ := h
  refine ⟨tb, S1, K, ?_, h2.keep (fun q hq => hk q ((h4 q).2 (.inr hq))) hz, h3, h4, h5⟩
  unfold Blk at h1 ⊢
  rw [hk b ((h4 b).2 (.inl rfl))]; exact h1
theorem MvO.gr {row : Option Nat} (h : MvO S w b f la ce m) (hg : w.grownBy x row) (hr : ∀ k, row = some k → ¬ S k) : MvO S x b f la ce m :=
  h.keep (fun q hq => hg.block q (h.ofS q hq) (fun e => hr q e.symm hq)) hg.size
theorem MvO.but (h : MvO S w b f la ce m) (hb : But D w x) (ha : ∀ q, D q → S q → False) : MvO S x b f la ce m :=
  h.keep (fun q hq => hb.block q (h.ofS q hq) (fun hd => ha q hd hq)) hb.size
theorem MvO.fok (h : MvO S w b f la ce m) : FOk f la m := by obtain ⟨tb, S1, K, h1, h2, h3, h4, h5, _⟩ := h; exact h5
theorem MvO.kof (h : MvO S w b f la ce m) : KOf (ksOf f) f := by obtain ⟨tb, S1, K, h1, h2, _⟩ := h; rw [ksOf_eq h2.kof]; exact h2.kof
theorem mvLa_bd {ts : Int} {l : List OpT} (h : 0 ≤ la ∧ la < 18446744073709551616) (hts : 0 ≤ ts ∧ ts < 18446744073709551616) : (0 ≤ mvLa la ts l ∧ mvLa la ts l < 18446744073709551616) ∧ la ≤ mvLa la ts l := by
  unfold mvLa
  split
  · rename_i hE
    by_cases h1 : ts = 0
    · rw [mvE_a h1] at hE; cases hE
    · by_cases h2 : ts ≤ la
      · rw [mvE_b h1 h2] at hE; cases hE
      · exact ⟨hts, by omega⟩
  · exact ⟨h, Int.le_refl _⟩
theorem mv_good {ts : Int} {l : List OpT} (hE : mvE la ts l = 0) : ¬ ts = 0 ∧ la < ts ∧ chkB 0 1 l = 0 := by
  by_cases h1 : ts = 0
  · rw [mvE_a h1] at hE; cases hE
  · by_cases h2 : ts ≤ la
    · rw [mvE_b h1 h2] at hE; cases hE
    · rw [mvE_c h1 h2] at hE; exact ⟨h1, by omega, hE⟩
theorem FOk.mv {ts : Int} {l : List OpT} (h : FOk f la m) (hts : 0 ≤ ts ∧ ts < 18446744073709551616) : FOk (mvF f la ts l) (mvLa la ts l) (m + 1) := by
  unfold mvF mvLa
  by_cases hE : mvE la ts l = 0
  · obtain ⟨h1, h2, h3⟩ := mv_good hE
    rw [if_pos hE, if_pos hE]
    exact h.puts h2 ⟨by omega, hts.2⟩ (chkB_up h3)
  · rw [if_neg hE, if_neg hE]; exact h.mono (Int.le_refl _) (by omega)
theorem mvPut (w : World) (ts : Int) (v : Value) (l : List OpT) (h : MvO S w b f la ce m) (hs : SliceOf opE 3 w v l) (hvS : l ≠ [] → ∀ k, v.ownBlock = some k → ¬ S k) (hl : l.length ≤ 20) (hts : 0 ≤ ts ∧ ts < 18446744073709551616) (hm : m ≤ 100) :
    Calls Try.prog 43 #[pt b 0, .int .u64 ts, v] w fun e w' => ∃ S' : Nat → Prop, e = .returned (.int .i64 (mvE la ts l)) ∧ MvO S' w' b (mvF f la ts l) (mvLa la ts l) (mvCe la ts ce l) (m + 1) ∧ Grew S S' w w' := by
  obtain ⟨tb, S1, K, h1, h2, h3, h4, h5, h6, h7, h8⟩ := h
  refine (mput_blk S1 b tb K f la ce m ts v l w h1 h2 h3 h5 (by omega) h6 (by omega) hs (fun hn k hk hq => hvS hn k hk ((h4 k).2 hq)) hts (by omega) hl).mono ?_
  rintro e w' ⟨S', K', rfl, k1, k2, k3, k4, k5, k6⟩
  refine ⟨fun q => q = b ∨ S' q, rfl, ⟨tb, S', K', k1, k2, k4, fun q => Iff.rfl, h5.mv hts, (mvLa_bd h6 hts).1, by omega, ?_⟩, fun q hq => ?_, k6.mono fun q _ hq => (h4 q).2 hq⟩
  · unfold mvCe; split <;> omega
  · rcases hq with rfl | hq
    · exact .inl ((h4 _).2 (.inl rfl))
    · rcases k3 q hq with k | k
      · exact .inl ((h4 q).2 k)
      · exact .inr k
theorem mvGet (w : World) (k : ByteArray) (t : Int) (h : MvO S w b f la ce m) :
    Calls Try.prog 28 #[pt b 0, .string k, .int .u64 t] w fun e w' => e = .returned (.tuple #[.string (atS (f k) t).1, .bool (atS (f k) t).2]) ∧ Below w.heap.size w w' := by
  obtain ⟨tb, S1, K, h1, h2, h3, h4, h5, _⟩ := h
  exact mget_blk b tb _ _ S1 K f k t la m w h1 h2 h5
/-- What a scan tells, were there no limit. -/
noncomputable def hitsF (f : Fv) (t : Int) (F T : ByteArray) : List PairT := hits f t ((ksOf f).filter (inR F T))
theorem mvScan (w : World) (F T : ByteArray) (t most : Int) (h : MvO S w b f la ce m) (hm : m ≤ 100) (hmost : -9223372036854775808 ≤ most ∧ most ≤ 9223372036854775807) :
    Calls Try.prog 18 #[pt b 0, .string F, .string T, .int .u64 t, .int .i64 most] w fun e w' => ∃ u, e = .returned (.tuple #[u, .bool (scanM (hitsF f t F T) most)]) ∧ w'.ownsRow w.heap.size 101 2 u (scanL (hitsF f t F T) most).length ((scanL (hitsF f t F T) most).flatMap pairE) ∧ Below w.heap.size w w' := by
  obtain ⟨tb, S1, K, h1, h2, h3, h4, h5, h6, h7, h8⟩ := h
  unfold hitsF
  rw [ksOf_eq h2.kof]
  exact mscan_blk S1 b tb K f la ce m F T t most w h1 h2 h3 h5 (by omega) h6 (by omega) (by omega) hmost
end
set_option maxRecDepth 100000
theorem mvLast {S : Nat → Prop} {b m : Nat} {f : Fv} {la ce : Int} (w : World) (h : MvO S w b f la ce m) : Calls Try.prog 21 #[pt b 0] w fun e w' => e = .returned (.int .u64 la) ∧ w = w' := by
  obtain ⟨tb, S1, K, h1, h2, _⟩ := h
  have c2 : w.cell? ⟨b, 2, none⟩ = some (.int .u64 la) := h1.cell (k := 2) rfl
  have HB := Lib.hid h1; clear h1 h2
  go_enter Try.func21, Try.ntmps21
  go_wp2_with fail
  refine (mzero_any b _ _ _ w HB.out).mono ?_
  rintro e w1 ⟨rfl, rfl⟩
  go_wp2
  go_ret
  exact ⟨rfl, rfl⟩
theorem mvCells {S : Nat → Prop} {b m : Nat} {f : Fv} {la ce : Int} (w : World) (h : MvO S w b f la ce m) : Calls Try.prog 22 #[pt b 0] w fun e w' => e = .returned (.int .i64 ce) ∧ w = w' := by
  obtain ⟨tb, S1, K, h1, h2, _⟩ := h
  have c3 : w.cell? ⟨b, 3, none⟩ = some (.int .i64 ce) := h1.cell (k := 3) rfl
  have HB := Lib.hid h1; clear h1 h2
  go_enter Try.func22, Try.ntmps22
  go_wp2_with fail
  refine (mzero_any b _ _ _ w HB.out).mono ?_
  rintro e w1 ⟨rfl, rfl⟩
  go_wp2
  go_ret
  exact ⟨rfl, rfl⟩
theorem mvNew (w : World) : Calls Try.prog 14 #[] w fun e w' => ∃ (N : Nat) (S : Nat → Prop), e = .returned (pt N 0) ∧ MvO S w' N (fun _ => []) 0 0 0 ∧ (∀ q, S q → w.heap.size ≤ q) ∧ Below w.heap.size w w' := by
  go_enter Try.func14, Try.ntmps14
  go_wp2_with fail
  refine (tnew_any w).mono ?_
  rintro e w1 ⟨S0, rfl, hT, hlo, hb⟩
  have HT := Lib.hid hT; have HL := Lib.hid hlo; have HB := Lib.hid hb; clear hT hlo hb
  go_wp2
  go_ret
  have hg := World.grownBy_alloc w1 (.cells #[.bool true, pt w.heap.size 0, .int .u64 0, .int .i64 0] 92) none
  refine ⟨w1.heap.size, fun q => q = w1.heap.size ∨ S0 q, rfl, ⟨w.heap.size, S0, [], World.alloc_heap_new w1 _, ⟨S0, [], 0, HT.out.gr hg (fun k e => by cases e), rfl, ⟨List.Pairwise.nil, by simp⟩, by simp, fun q hq => hq, fun q hq => Nat.lt_of_lt_of_le (HT.out.ofS q hq) hg.size⟩, fun hq => by have := HT.out.ofS _ hq; omega, fun q => Iff.rfl, ⟨by simp, fun _ => rfl, fun _ => Int.le_refl _, by simp⟩, by omega, by simp, by omega⟩, fun q hq => ?_, HB.out.alloc HB.out.size _⟩
  rcases hq with rfl | hq
  · exact HB.out.size
  · exact HL.out q hq
/-- Nobody made it. -/
def NoMv (w : World) (p : Value) : Prop := p = .pointer none ∨ ∃ b u v c, p = pt b 0 ∧ Blk w b 92 #[.bool false, u, v, c]
theorem NoMv.gr {w x : World} {p : Value} (h : NoMv w p) (hg : w.grownBy x none) : NoMv x p := by
  rcases h with rfl | ⟨b, u, v, c, rfl, h⟩
  · exact .inl rfl
  · exact .inr ⟨b, u, v, c, rfl, h.kept hg (by simp)⟩
end Go.Proofs.Ytkjnhghniopnoaa

/- Package rstate: New, Stamped. Conditions: none. -/
namespace Go.Proofs.Ytkjnhghniopnoaa
open Go.RowKit Go.PlainAid
set_option linter.unusedVariables false
set_option linter.unusedSimpArgs false


def bA : ByteArray := ⟨#[97]⟩
def b1 : ByteArray := ⟨#[49]⟩
def opA : OpT := (bA, b1, false)
theorem mvo_butR {S D : Nat → Prop} {w x : World} {b m : Nat} {f : Fv} {la ce : Int} (h : MvO S w b f la ce m) (hb : But D w x) (ha : ∀ q, S q → D q → False) : MvO S x b f la ce m := h.but hb (fun q h1 h2 => ha q h2 h1)
def enA (v : Value) (ts : Int) : EntT := EntT.mk 0 1 v [opA] ts
set_option maxRecDepth 100000 in
theorem rsNew_blk  (w : World)  :
    Calls Try.prog 8 #[] w fun e w' => ∃ (b : Nat) (q : Nat) (g : Nat) (S' : Nat → Prop), e = .returned (pt b 0) ∧ Blk w' b 68 #[pt q 0] ∧ Blk w' q 80 #[pt g 0, .int .i64 0, .slice none 0 0, .int .u64 0, .int .u64 0] ∧ LObj S' w' g [] ∧ ¬ S' b ∧ ¬ S' q ∧ (∀ k, S' k → w.heap.size ≤ k) ∧ w.heap.size ≤ b ∧ w.heap.size ≤ q ∧ Below w.heap.size w w' := by
 have hB0 := Below.refl w.heap.size w
 refine co_enter (n := 6) Try.func8 rfl rfl rfl [] rfl (fun a h0 => ?_)
 refine co_seq ?_
 refine co_reg ?_
 refine pk0 (v := .pointer none) h0 rfl fun a1 h1 => ?_; clear h0
 refine pl_nil ?_
 refine co_then ?_
 refine co_seq ?_
 refine co_reg ?_
 refine pw h1 rfl (op_call (args := #[]) (R := fun res xw => ∃ N S, res = pt N 0 ∧ LObj S xw N [] ∧ (∀ q, S q → w.heap.size ≤ q) ∧ Below w.heap.size w xw) rfl rfl rfl (by kernel_rfl) (by kernel_rfl) (Try.call29 _ _) (tNew w) (by rintro e x ⟨N, S, rfl, h⟩; exact ⟨_, rfl, N, S, rfl, h⟩)) ?_; clear h1
 rintro _ w3 a2 ⟨N4, S5, rfl, hO6, hlo7, hb8⟩ h2
 have hz9 := hb8.size
 have hlo10 : ∀ q, S5 q → w.heap.size ≤ q := fun q hq => by have := hlo7 q hq; omega
 refine pk0 (v := .agg #[pt N4 0, .int .i64 0, .slice none 0 0, .int .u64 0, .int .u64 0]) h2 rfl fun a11 h11 => ?_; clear h2
 refine pw h11 rfl (op_new (v := fun N => pt N 0) (T := 80) (cs := #[pt N4 0, .int .i64 0, .slice none 0 0, .int .u64 0, .int .u64 0]) (by kernel_rfl) (by kernel_rfl) (by kernel_rfl)) ?_; clear h11
 rintro _ w13 a12 ⟨N14, rfl, hN17, hz18, hk16, hg15⟩ h12
 have hz19 := hg15.size
 have ho20 := off_new (LObj.ofS hO6) hN17
 try dsimp only at h12
 refine pk0 (v := .agg #[pt N14 0]) h12 rfl fun a21 h21 => ?_; clear h12
 refine pw h21 rfl (op_new (v := fun N => pt N 0) (T := 68) (cs := #[pt N14 0]) (by kernel_rfl) (by kernel_rfl) (by kernel_rfl)) ?_; clear h21
 rintro _ w23 a22 ⟨N24, rfl, hN27, hz28, hk26, hg25⟩ h22
 have hz29 := hg25.size
 have hO31 := LObj.gr hO6 hg15 (fun k e => by cases e)
 have ho30 := off_new (LObj.ofS hO31) hN27
 try dsimp only at h22
 refine pk0 (v := pt N24 0) h22 rfl fun a32 h32 => ?_; clear h22
 refine pl_nil ?_
 refine co_then ?_
 refine wp_ret ?_
 refine co_ret1 h32 rfl rfl ?_
 have hk33 := hk16.kept hg25 (by simp)
 have hO34 := LObj.gr hO31 hg25 (fun k e => by cases e)
 have hB35 := hb_call hB0 hb8
 have hB36 := hb_new hB35 hg15
 have hB37 := hb_new hB36 hg25
 exact ⟨_, _, _, _, rfl, hk26, hk33, hO34, ho30, ho20, hlo10, by omega, by omega, hB37⟩
set_option maxRecDepth 100000 in
theorem rsStamped_blk (b : Nat) (q : Nat) (g : Nat) (S : Nat → Prop) (L : List EntT) (ep : Int) (cv : Value) (fl : Int) (hz : Int) (w : World) (hb : Blk w b 68 #[pt q 0]) (hq : Blk w q 80 #[pt g 0, .int .i64 ep, cv, .int .u64 fl, .int .u64 hz]) (hL : LObj S w g L) (hSb : ¬ S b) (hSq : ¬ S q) :
    Calls Try.prog 19 #[pt b 0] w fun e w' => ∃ (S' : Nat → Prop), e = .returned (.int .i64 ((stN L : Nat) : Int)) ∧ LObj S' w' g L ∧ (∀ k, S' k → S k ∨ w.heap.size ≤ k) ∧ But (S) w w' := by
 have hlq := hq.lt
 have hlb := hb.lt
 have hB0 := But.refl (S) w
 have hl_hb := hb.lt
 have hl_hq := hq.lt
 have hinS : ∀ k, S k → S k ∨ w.heap.size ≤ k := fun k hk => .inl hk
 refine co_enter (n := 9) Try.func19 rfl rfl rfl [(0, pt b 0)] rfl (fun a h0 => ?_)
 refine co_seq ?_
 refine co_reg ?_
 refine pk0 (v := .int .i64 0) h0 rfl fun a1 h1 => ?_; clear h0
 refine pl_nil ?_
 refine co_then ?_
 refine co_seq ?_
 refine co_reg ?_
 refine pk0 (v := pt b 0) h1 rfl fun a2 h2 => ?_; clear h1
 refine pw h2 rfl (op_call (args := #[pt b 0]) (R := fun res xw => res = pt q 0 ∧ w = xw) rfl rfl rfl (by kernel_rfl) (by kernel_rfl) (Try.call30 _ _) (rsgetT b q w hb) (by rintro e x ⟨rfl, rfl⟩; exact ⟨_, rfl, ⟨rfl, rfl⟩⟩)) ?_; clear h2
 rintro _ _ a3 ⟨rfl, rfl⟩ h3
 refine pk0 (v := pt q 0) h3 rfl fun a6 h6 => ?_; clear h3
 refine pk0 (v := pt q 0) h6 rfl fun a7 h7 => ?_; clear h6
 refine pk (v := pt g 0) h7 rfl (rn_load1 rfl rfl Try.isAgg77 (hq.cell rfl)) fun a8 h8 => ?_; clear h7
 refine pw h8 rfl (op_call (args := #[pt g 0]) (R := fun res xw => ∃ S' : Nat → Prop, res = .int .i64 ((stN L : Nat) : Int) ∧ LObj S' xw g L ∧ Grew S S' w xw) rfl rfl rfl (by kernel_rfl) (by kernel_rfl) (Try.call41 _ _) (tStamped w hL) (by rintro e x ⟨S', h0, h⟩; exact ⟨_, h0, S', rfl, h⟩)) ?_; clear h8
 rintro _ w10 a9 ⟨S11, rfl, hO12, hx13⟩ h9
 have hB14 := fbU_foot hB0 hx13.but (fun i hi hq => by rcases hinS i hq with k | k; exact k; omega)
 have hz15 := hB14.size
 have hz16 := hx13.but.size
 have hin17 : ∀ k, S11 k → (S k) ∨ w.heap.size ≤ k := fun k hk => by rcases hx13.sub k hk with j | j; exact hinS k j; exact .inr (by omega)
 refine pk0 (v := .int .i64 ((stN L : Nat) : Int)) h9 rfl fun a18 h18 => ?_; clear h9
 refine pl_nil ?_
 refine co_then ?_
 refine wp_ret ?_
 refine co_ret1 h18 rfl rfl ?_
 exact ⟨_, rfl, hO12, hin17, hB14⟩
end Go.Proofs.Ytkjnhghniopnoaa

/- Package rstate: Feed of one entry. Conditions: the entry of awake. -/
namespace Go.Proofs.Ytkjnhghniopnoaa
open Go.RowKit Go.PlainAid
set_option linter.unusedVariables false
set_option linter.unusedSimpArgs false

set_option maxRecDepth 100000 in
set_option maxHeartbeats 1600000 in
theorem rsFeed1_blk (b : Nat) (q : Nat) (g : Nat) (S : Nat → Prop) (v : Value) (ep : Int) (cv : Value) (fl : Int) (hz : Int) (m : Nat) (D : Nat → Prop) (w : World) (hb : Blk w b 68 #[pt q 0]) (hq : Blk w q 80 #[pt g 0, .int .i64 ep, cv, .int .u64 fl, .int .u64 hz]) (hL : LObj S w g [enA v 5]) (hSb : ¬ S b) (hSq : ¬ S q) (hV : MvO D w m (fun _ => []) 0 0 0) (hap : ∀ k, S k → D k → False) (hDb : ¬ D b) (hDq : ¬ D q) :
    Calls Try.prog 15 #[pt b 0, pt m 0, .int .i64 0, .int .i64 9] w fun e w' => ∃ (S' : Nat → Prop) (D' : Nat → Prop), e = .returned (.int .i64 1) ∧ LObj S' w' g [enA v 5] ∧ MvO D' w' m (mvF (fun _ => []) 0 5 [opA]) (mvLa 0 5 [opA]) (mvCe 0 5 0 [opA]) 1 ∧ (∀ k, S' k → S k ∨ w.heap.size ≤ k) ∧ (∀ k, D' k → D k ∨ w.heap.size ≤ k) ∧ (∀ k, S' k → D' k → False) ∧ But (fun k => S k ∨ D k) w w' := by
 have hlq := hq.lt
 have hlb := hb.lt
 have hB0 := But.refl (fun k => S k ∨ D k) w
 have hl_hb := hb.lt
 have hl_hq := hq.lt
 have hinS : ∀ k, S k → S k ∨ w.heap.size ≤ k := fun k hk => .inl hk
 have hinD : ∀ k, D k → D k ∨ w.heap.size ≤ k := fun k hk => .inl hk
 refine co_enter (n := 51) Try.func15 rfl rfl rfl [(0, pt b 0), (1, pt m 0), (2, .int .i64 0), (3, .int .i64 9)] rfl (fun a h0 => ?_)
 refine co_seq ?_
 refine co_reg ?_
 refine pk0 (v := .int .i64 0) h0 rfl fun a1 h1 => ?_; clear h0
 refine pl_nil ?_
 refine co_then ?_
 refine co_seq ?_
 refine co_reg ?_
 refine pk0 (v := pt b 0) h1 rfl fun a2 h2 => ?_; clear h1
 refine pw h2 rfl (op_call (args := #[pt b 0]) (R := fun res xw => res = pt q 0 ∧ w = xw) rfl rfl rfl (by kernel_rfl) (by kernel_rfl) (Try.call30 _ _) (rsgetT b q w hb) (by rintro e x ⟨rfl, rfl⟩; exact ⟨_, rfl, ⟨rfl, rfl⟩⟩)) ?_; clear h2
 rintro _ _ a3 ⟨rfl, rfl⟩ h3
 refine pk0 (v := pt q 0) h3 rfl fun a6 h6 => ?_; clear h3
 refine pl_nil ?_
 refine co_then ?_
 refine co_seq ?_
 refine co_seq ?_
 refine co_reg ?_
 refine pk0 (v := pt q 0) h6 rfl fun a7 h7 => ?_; clear h6
 refine pw h7 rfl (op_call (args := #[pt q 0]) (R := fun res xw => res = .bool false ∧ w = xw) rfl rfl rfl (by kernel_rfl) (by kernel_rfl) (Try.call32 _ _) (rszeroT q g ep cv fl hz w hq) (by rintro e x ⟨rfl, rfl⟩; exact ⟨_, rfl, ⟨rfl, rfl⟩⟩)) ?_; clear h7
 rintro _ _ a8 ⟨rfl, rfl⟩ h8
 refine pl_nil ?_
 refine co_then ?_
 refine co_false h8 rfl ?_
 refine wp_skip ?_
 refine co_then ?_
 refine co_seq ?_
 refine co_reg ?_
 refine pk0 (v := .int .i64 0) h8 rfl fun a11 h11 => ?_; clear h8
 obtain ⟨kp12, hkp13⟩ : ∃ z : Int, z = (if 0 < 0 then 0 else 0) := ⟨_, rfl⟩
 have hq14 : kp12 ≥ 0 ∧ kp12 ≥ 0 ∧ (kp12 = 0 ∨ kp12 = 0) := by rw [hkp13]; split <;> omega
 refine pk (v := .int .i64 kp12) h11 rfl (by rw [hkp13]; kernel_rfl) fun a15 h15 => ?_; clear h11
 refine pk0 (v := .int .i64 kp12) h15 rfl fun a16 h16 => ?_; clear h15
 refine pl_nil ?_
 refine co_then ?_
 refine co_seq ?_
 refine co_reg ?_
 refine pk0 (v := .int .i64 9) h16 rfl fun a17 h17 => ?_; clear h16
 refine pk0 (v := pt q 0) h17 rfl fun a18 h18 => ?_; clear h17
 refine pk0 (v := pt q 0) h18 rfl fun a19 h19 => ?_; clear h18
 refine pk0 (v := pt q 0) h19 rfl fun a20 h20 => ?_; clear h19
 refine pk (v := pt g 0) h20 rfl (rn_load1 rfl rfl Try.isAgg77 (hq.cell rfl)) fun a21 h21 => ?_; clear h20
 refine pw h21 rfl (op_call (args := #[pt g 0]) (R := fun res xw => ∃ S' : Nat → Prop, res = .int .i64 1 ∧ LObj S' xw g [enA v 5] ∧ Grew S S' w xw) rfl rfl rfl (by kernel_rfl) (by kernel_rfl) (Try.call41 _ _) (tStamped w hL) (by rintro e x ⟨S', h0, h⟩; exact ⟨_, h0, S', rfl, h⟩)) ?_; clear h21
 rintro _ w23 a22 ⟨S24, rfl, hO25, hx26⟩ h22
 have hB27 := fbU_foot hB0 hx26.but (fun i hi hq => by rcases hinS i hq with k | k; (first | exact k | exact .inl k | exact .inr k); omega)
 have hz28 := hB27.size
 have hz29 := hx26.but.size
 have hin30 : ∀ k, S24 k → (S k) ∨ w.heap.size ≤ k := fun k hk => by rcases hx26.sub k hk with j | j; exact hinS k j; exact .inr (by omega)
 obtain ⟨kp31, hkp32⟩ : ∃ z : Int, z = (if 1 < 9 then 1 else 9) := ⟨_, rfl⟩
 have hq33 : kp31 ≤ 9 ∧ kp31 ≤ 1 ∧ (kp31 = 9 ∨ kp31 = 1) := by rw [hkp32]; split <;> omega
 refine pk (v := .int .i64 kp31) h22 rfl (by rw [hkp32]; kernel_rfl) fun a34 h34 => ?_; clear h22
 refine pk0 (v := .int .i64 kp31) h34 rfl fun a35 h35 => ?_; clear h34
 refine pl_nil ?_
 refine co_then ?_
 refine co_seq ?_
 refine co_seq ?_
 refine co_reg ?_
 refine pk0 (v := .int .i64 kp12) h35 rfl fun a36 h36 => ?_; clear h35
 refine pk0 (v := .int .i64 kp12) h36 rfl fun a37 h37 => ?_; clear h36
 refine pl_nil ?_
 refine co_then ?_
 refine wp_block ?_
 refine wp_loop_rounds 2 ?_
 refine co_unroll (n := 1) ?_
 refine co_seq ?_
 refine co_seq ?_
 refine co_reg ?_
 refine pk0 (v := .int .i64 kp12) h37 rfl fun a38 h38 => ?_; clear h37
 refine pk0 (v := .int .i64 kp31) h38 rfl fun a39 h39 => ?_; clear h38
 refine pk0 (v := .bool (decide (kp12 < kp31))) h39 rfl fun a40 h40 => ?_; clear h39
 refine pl_nil ?_
 refine co_then ?_
 have hc41 : (decide (kp12 < kp31)) = true := decide_eq_true (by omega)
 rw [hc41] at h40; clear hc41
 refine co_true h40 rfl ?_
 refine wp_skip ?_
 refine co_then ?_
 refine co_seq ?_
 refine wp_block ?_
 refine co_seq ?_
 refine co_reg ?_
 refine pk0 (v := pt q 0) h40 rfl fun a42 h42 => ?_; clear h40
 refine pk0 (v := pt q 0) h42 rfl fun a43 h43 => ?_; clear h42
 refine pk0 (v := pt q 0) h43 rfl fun a44 h44 => ?_; clear h43
 have hk45 := Blk.butS hq hx26.but hSq
 refine pk (v := pt g 0) h44 rfl (rn_load1 rfl rfl Try.isAgg77 (hk45.cell rfl)) fun a46 h46 => ?_; clear h44
 refine pk0 (v := .int .i64 kp12) h46 rfl fun a47 h47 => ?_; clear h46
 have hO51 := mvo_butR hV hx26.but (ap_symm hap)
 have ho50 := MvO.ofS hO51
 have ho52 := LObj.ofS hO25
 refine pw h47 rfl (op_call (args := #[pt g 0, .int .i64 kp12]) (R := fun res xw => ∃ ev : Value, ∃ S' : Nat → Prop, res = .tuple #[.agg #[.int .i64 0, .int .i64 1, ev, .int .u64 5], .bool true] ∧ LObj S' xw g [enA v 5] ∧ (xw.ownsRow w23.heap.size 74 3 ev [opA].length ([opA].flatMap opE)) ∧ (∀ q, S' q → q < w23.heap.size) ∧ Grew S24 S' w23 xw) rfl rfl rfl (by kernel_rfl) (by kernel_rfl) (Try.call42 _ _) (tAt w23 kp12 hO25) (by rintro e x ⟨ev, S', h0, h1, h2, h3, h4⟩; rw [show kp12 = (0 : Int) from by omega] at h0 h1; exact ⟨_, h0, ev, S', rfl, h2, h1, h3, h4⟩)) ?_; clear h47
 rintro _ w49 a48 ⟨ev53, S54, rfl, hO55, hq57, hq58, hx56⟩ h48
 have hk59 := Blk.butS hb hx26.but hSb
 have hB60 := fbU_foot hB27 hx56.but (fun i hi hq => by rcases hin30 i hq with k | k; (first | exact k | exact .inl k | exact .inr k); omega)
 have hz61 := hB60.size
 have hz62 := hx56.but.size
 have hin63 : ∀ k, S54 k → (S k) ∨ w.heap.size ≤ k := fun k hk => by rcases hx56.sub k hk with j | j; exact hin30 k j; exact .inr (by omega)
 refine pk0 (v := .tuple #[.agg #[.int .i64 0, .int .i64 1, ev53, .int .u64 5], .bool true]) h48 rfl fun a64 h64 => ?_; clear h48
 refine pk0 (v := .agg #[.int .i64 0, .int .i64 1, ev53, .int .u64 5]) h64 rfl fun a65 h65 => ?_; clear h64
 refine pk0 (v := .bool true) h65 rfl fun a66 h66 => ?_; clear h65
 refine pw h66 rfl (op_new (v := fun N => pt N 0) (T := 40) (cs := #[.int .i64 0, .int .i64 0, .slice none 0 0, .int .u64 0]) (by kernel_rfl) (by kernel_rfl) (by kernel_rfl)) ?_; clear h66
 rintro _ w68 a67 ⟨N69, rfl, hN72, hz73, hk71, hg70⟩ h67
 have ha74 := row_fresh hq57 hN72
 have hu75 := row_under hq57 hN72
 have hz76 := hg70.size
 have hO78 := mvo_butR hO51 hx56.but (ap_symm (Grew.ap hx26 (ap_symm (ap_symm hap)) (MvO.ofS hV)))
 have ho77 := off_new (MvO.ofS hO78) hN72
 have ho79 := off_new (LObj.ofS hO55) hN72
 try dsimp only at h67
 have hr85 := row_kept_new hq57 hg70
 refine pwD h67 rfl (op_storeN rfl rfl rfl (all_cons rfl (all_cons rfl (all_cons (row_one hr85) (all_cons rfl all_nil)))) (by kernel_rfl) hk71 rfl) ?_; clear h67
 rintro _ w81 a80 ⟨hk82, hz83, hg84⟩ h80
 have hk82' : Blk w81 N69 40 #[.int .i64 0, .int .i64 1, ev53, .int .u64 5] := hk82; clear hk82
 have hz86 := hg84.size
 refine pk0 (v := .bool true) h80 rfl fun a87 h87 => ?_; clear h80
 refine pl_nil ?_
 refine co_then ?_
 refine co_reg ?_
 refine pk0 (v := pt m 0) h87 rfl fun a88 h88 => ?_; clear h87
 refine pk0 (v := pt N69 3) h88 rfl fun a89 h89 => ?_; clear h88
 refine pk (v := .int .u64 5) h89 rfl (rn_load1 rfl rfl Try.isAgg27 (hk82'.cell rfl)) fun a90 h90 => ?_; clear h89
 refine pk0 (v := pt N69 0) h90 rfl fun a91 h91 => ?_; clear h90
 refine pk0 (v := pt N69 2) h91 rfl fun a92 h92 => ?_; clear h91
 refine pk (v := ev53) h92 rfl (rn_load1 rfl rfl Try.isAgg36 (hk82'.cell rfl)) fun a93 h93 => ?_; clear h92
 have hO97 := MvO.gr hO78 hg70 (fun k e => by cases e)
 have hO98 := MvO.gr hO97 hg84 (fun k e => by cases e; exact ho77)
 have ho96 := MvO.ofS hO98
 have hO100 := LObj.gr hO55 hg70 (fun k e => by cases e)
 have hO101 := LObj.gr hO100 hg84 (fun k e => by cases e; exact ho79)
 have ho99 := LObj.ofS hO101
 have hr102 := row_kept_at hr85 hg84 (ha74)
 have hB103 := fbU_new hB60 hg70
 have hB104 := fbU_at hB103 hg84 (fun hlt => absurd hlt (by omega))
 have hk105 := Blk.butS hk59 hx56.but (Grew.off hx26 hSb hb.lt)
 have hk106 := hk105.kept hg70 (by simp)
 have hk107 := hk106.kept hg84 (by simp; omega)
 have hk108 := Blk.butS hk45 hx56.but (Grew.off hx26 hSq hq.lt)
 have hk109 := hk108.kept hg70 (by simp)
 have hk110 := hk109.kept hg84 (by simp; omega)
 refine pw h93 rfl (op_call (args := #[pt m 0, .int .u64 5, ev53]) (R := fun res xw => ∃ S' : Nat → Prop, res = .int .i64 (mvE 0 5 [opA]) ∧ MvO S' xw m (mvF (fun _ => []) 0 5 [opA]) (mvLa 0 5 [opA]) (mvCe 0 5 0 [opA]) 1 ∧ Grew D S' w81 xw) rfl rfl rfl (by kernel_rfl) (by kernel_rfl) (Try.call43 _ _) (mvPut w81 5 ev53 [opA] hO98 (row_sl hr102 opE_len) (fun _ => (offR_row ho50 hr102 (Nat.le_refl _))) (by decide) (by decide) (by decide)) (by rintro e x ⟨S', h0, h⟩; exact ⟨_, h0, S', rfl, h⟩)) ?_; clear h93
 rintro _ w95 a94 ⟨S111, rfl, hO112, hx113⟩ h94
 have hB114 := fbU_foot hB104 hx113.but (fun i hi hq => by rcases hinD i hq with k | k; (first | exact k | exact .inl k | exact .inr k); omega)
 have hz115 := hB114.size
 have hz116 := hx113.but.size
 have hin117 : ∀ k, S111 k → (D k) ∨ w.heap.size ≤ k := fun k hk => by rcases hx113.sub k hk with j | j; exact hinD k j; exact .inr (by omega)
 refine pl_nil ?_
 refine co_blockN ?_
 refine co_then ?_
 refine co_reg ?_
 refine pk0 (v := .int .i64 kp12) h94 rfl fun a118 h118 => ?_; clear h94
 refine pk (v := .int .i64 (kp12 + 1)) h118 rfl (rn_arith rfl rfl rfl rfl rfl rfl (IntWalk.i64_in _ (by omega))) fun a119 h119 => ?_; clear h118
 refine pk0 (v := .int .i64 (kp12 + 1)) h119 rfl fun a120 h120 => ?_; clear h119
 refine pl_nil ?_
 refine co_then ?_
 refine co_unroll (n := 0) ?_
 refine co_seq ?_
 refine co_seq ?_
 refine co_reg ?_
 refine pk0 (v := .int .i64 (kp12 + 1)) h120 rfl fun a121 h121 => ?_; clear h120
 refine pk0 (v := .int .i64 kp31) h121 rfl fun a122 h122 => ?_; clear h121
 refine pk0 (v := .bool (decide (kp12 + 1 < kp31))) h122 rfl fun a123 h123 => ?_; clear h122
 refine pl_nil ?_
 refine co_then ?_
 have hc124 : (decide (kp12 + 1 < kp31)) = false := decide_eq_false (by omega)
 rw [hc124] at h123; clear hc124
 refine co_false h123 rfl ?_
 refine wp_exit ?_
 refine co_thenX ?_
 refine co_thenX ?_
 refine co_blockX ?_
 refine co_then ?_
 refine co_seq ?_
 refine co_reg ?_
 refine pk0 (v := .int .i64 kp12) h123 rfl fun a125 h125 => ?_; clear h123
 refine pk0 (v := .int .i64 kp31) h125 rfl fun a126 h126 => ?_; clear h125
 obtain ⟨kp127, hkp128⟩ : ∃ z : Int, z = (if kp12 < kp31 then kp31 else kp12) := ⟨_, rfl⟩
 have hq129 : kp127 ≥ kp12 ∧ kp127 ≥ kp31 ∧ (kp127 = kp12 ∨ kp127 = kp31) := by rw [hkp128]; split <;> omega
 refine pk (v := .int .i64 kp127) h126 rfl (by rw [hkp128]; kernel_rfl) fun a130 h130 => ?_; clear h126
 refine pk0 (v := .int .i64 kp127) h130 rfl fun a131 h131 => ?_; clear h130
 refine pl_nil ?_
 refine co_then ?_
 refine wp_ret ?_
 refine co_ret1 h131 rfl rfl ?_
 have hO132 := LObj.butA hO101 hx113.but (ap_symm (ap_symm (Grew.ap hx56 (ap_symm (ap_symm (Grew.ap hx26 (ap_symm (ap_symm hap)) (MvO.ofS hV)))) (MvO.ofS hO51))))
 exact ⟨_, _, ret_int (by omega), hO132, hO112, hin63, hin117, (ap_symm (Grew.ap hx113 (ap_symm (ap_symm (ap_symm (Grew.ap hx56 (ap_symm (ap_symm (Grew.ap hx26 (ap_symm (ap_symm hap)) (MvO.ofS hV)))) (MvO.ofS hO51))))) (LObj.ofS hO101))), hB114⟩
end Go.Proofs.Ytkjnhghniopnoaa

/- Package rstate: a state as an object; New, Apply, Stamped; with a store: Feed of one entry. Conditions: none. -/
namespace Go.Proofs.Ytkjnhghniopnoaa
open Go.RowKit Go.PlainAid
set_option linter.unusedVariables false
set_option linter.unusedSimpArgs false

/-- A state that lies at b: entries, epoch, horizon. -/
def StO (S : Nat → Prop) (w : World) (b : Nat) (L : List EntT) (ep hz : Int) : Prop :=
  ∃ (q g : Nat) (A : Nat → Prop) (cv : Value) (ms : List MemT) (fl : Int), Blk w b 68 #[pt q 0] ∧ Blk w q 80 #[pt g 0, .int .i64 ep, cv, .int .u64 fl, .int .u64 hz] ∧ LObj A w g L ∧
    w.ownsRow 0 117 2 cv ms.length (ms.flatMap memE) ∧ ms.length ≤ 20 ∧ (∀ i, cv.ownBlock = some i → ¬ A i) ∧ ¬ A b ∧ ¬ A q ∧ b ≠ q ∧ RI L ∧ (∀ k, S k ↔ (k = b ∨ k = q ∨ A k ∨ cv.ownBlock = some k))
section
variable {S D A : Nat → Prop} {w x : World} {b m n : Nat} {L : List EntT} {ep hz la ce : Int} {f : Fv}
theorem StO.ofS (h : StO S w b L ep hz) : ∀ k, S k → k < w.heap.size := by
  obtain ⟨q, g, A, cv, ms, fl, h1, h2, h3, h4, h5, h6, h7, h8, h9, h10, h11⟩ := h
  intro k hk
  rcases (h11 k).1 hk with rfl | rfl | hk | hk
  · exact h1.lt
  · exact h2.lt
  · exact h3.ofS k hk
  · exact (h4.lt k hk).2
theorem StO.keep (h : StO S w b L ep hz) (hk : ∀ k, S k → x.heap[k]? = w.heap[k]?) (hz' : w.heap.size ≤ x.heap.size) : StO S x b L ep hz := by
  obtain ⟨q, g, A, cv, ms, fl, h1, h2, h3, h4, h5, h6, h7, h8, h9, h10, h11⟩ := h
  refine ⟨q, g, A, cv, ms, fl, ?_, ?_, h3.keep hz' (fun k j => hk k ((h11 k).2 (.inr (.inr (.inl j))))), row_sameL h4 (fun i hi => hk i ((h11 i).2 (.inr (.inr (.inr hi))))), h5, h6, h7, h8, h9, h10, h11⟩
  · unfold Blk at h1 ⊢; rw [hk b ((h11 b).2 (.inl rfl))]; exact h1
  · unfold Blk at h2 ⊢; rw [hk q ((h11 q).2 (.inr (.inl rfl)))]; exact h2
theorem StO.gr {row : Option Nat} (h : StO S w b L ep hz) (hg : w.grownBy x row) (hr : ∀ k, row = some k → ¬ S k) : StO S x b L ep hz :=
  h.keep (fun q hq => hg.block q (h.ofS q hq) (fun e => hr q e.symm hq)) hg.size
theorem StO.but (h : StO S w b L ep hz) (hb : But D w x) (ha : ∀ q, S q → D q → False) : StO S x b L ep hz :=
  h.keep (fun q hq => hb.block q (h.ofS q hq) (fun hd => ha q hq hd)) hb.size
theorem StO.ri (h : StO S w b L ep hz) : RI L := by obtain ⟨_, _, _, _, _, _, _, _, _, _, _, _, _, _, _, h10, _⟩ := h; exact h10
theorem stNew (w : World) : Calls Try.prog 8 #[] w fun e w' => ∃ (N : Nat) (S : Nat → Prop), e = .returned (pt N 0) ∧ StO S w' N [] 0 0 ∧ (∀ k, S k → w.heap.size ≤ k) ∧ Below w.heap.size w w' := by
  refine (rsNew_blk w).mono ?_
  rintro e x ⟨b, q, g, A, rfl, h1, h2, h3, h4, h5, h6, h7, h8, h9⟩
  refine ⟨b, fun k => k = b ∨ k = q ∨ A k ∨ (Value.slice none 0 0).ownBlock = some k, rfl, ⟨q, g, A, .slice none 0 0, [], 0, h1, h2, h3, World.ownsRow_nil _ _ _ _, by decide, (fun i hi => by simp [Value.ownBlock] at hi), h4, h5, ?_, RI.nil, fun k => Iff.rfl⟩, ?_, h9⟩
  · intro e
    subst e
    unfold Blk at h1 h2
    rw [h1] at h2
    injection h2 with e; injection e with e1 e2 e3
    exact absurd e2 (by decide)
  · rintro k (rfl | rfl | hk | hk)
    · exact h7
    · exact h8
    · exact h6 k hk
    · simp [Value.ownBlock] at hk
theorem stApply (w : World) (d : NoteD) (mv lv ev : Value) (h : StO S w b L ep hz) (hm : SliceOf memE 2 w mv d.ms) (hg : SliceOf (intE .i64) 1 w lv d.lg) (he : SliceOf opE 3 w ev d.el) (hR : NoteR d)
    (hbm : d.ms ≠ [] → ∀ k, mv.ownBlock = some k → ¬ S k) (hbg : d.lg ≠ [] → ∀ k, lv.ownBlock = some k → ¬ S k) (hbe : d.el ≠ [] → ∀ k, ev.ownBlock = some k → ¬ S k) :
    Calls Try.prog 11 #[pt b 0, .agg #[.int .i64 d.k, .int .i64 d.n, .int .u64 d.t, .int .i64 d.ep, mv, .int .u64 d.fl, lv, .int .i64 d.ec, .int .i64 d.er, ev, .int .u64 d.ets, .int .i64 d.pid, .int .u64 d.pat, .int .i64 d.plf, .int .i64 d.sc, .int .i64 d.sr, .int .i64 d.se, .int .i64 d.sp]] w fun e w' =>
      ∃ (r : Int) (L' : List EntT) (ep' hz' : Int) (S' : Nat → Prop), e = .returned (.int .i64 r) ∧ StO S' w' b L' ep' hz' ∧ ApR d ep hz L r ep' hz' L' ∧ Grew S S' w w' := by
  obtain ⟨q, g, A, cv, ms, fl, h1, h2, h3, h4, h5, h6, h7, h8, h9, h10, h11⟩ := h
  have hf : ∀ k, (k = q ∨ A k) → S k := fun k hk => (h11 k).2 (by rcases hk with e | hk; exact .inr (.inl e); exact .inr (.inr (.inl hk)))
  refine (rsApply_blk b q g A L ep cv ms fl hz d mv lv ev w h1 h2 h3 h7 h8 h4 h6 h5 h10 h9 hm hg he hR (fun hn k hk hj => hbm hn k hk (hf k hj)) (fun hn k hk hj => hbg hn k hk (hf k hj)) (fun hn k hk hj => hbe hn k hk (hf k hj))).mono ?_
  rintro e x ⟨r, A', L', ep', cv', ms', fl', hz', rfl, k1, k2, k3, k4, k5, k6, k7, k8, k9, k10⟩
  refine ⟨r, L', ep', hz', fun k => k = b ∨ k = q ∨ A' k ∨ cv'.ownBlock = some k, rfl, ⟨q, g, A', cv', ms', fl', h1.butS k10 ?_, k1, k2, k3, k4, k5, ?_, k7, h9, k8.ri h10, fun k => Iff.rfl⟩, k8, fun k hk => ?_, k10.mono fun k _ hk => hf k hk⟩
  · rintro (e | e); exact h9 e; exact h7 e
  · intro hb
    rcases k6 b hb with (e | e) | e
    · exact h9 e
    · exact h7 e
    · have := h1.lt; omega
  · rcases hk with rfl | rfl | hk | hk
    · exact .inl ((h11 _).2 (.inl rfl))
    · exact .inl ((h11 _).2 (.inr (.inl rfl)))
    · rcases k6 k hk with e | e
      · exact .inl (hf k e)
      · exact .inr e
    · rcases k9 k hk with e | e
      · exact .inl ((h11 k).2 (.inr (.inr (.inr e))))
      · exact .inr e
theorem stStamped (w : World) (h : StO S w b L ep hz) : Calls Try.prog 19 #[pt b 0] w fun e w' => ∃ S' : Nat → Prop, e = .returned (.int .i64 (stN L : Nat)) ∧ StO S' w' b L ep hz ∧ Grew S S' w w' := by
  obtain ⟨q, g, A, cv, ms, fl, h1, h2, h3, h4, h5, h6, h7, h8, h9, h10, h11⟩ := h
  refine (rsStamped_blk b q g A L ep cv fl hz w h1 h2 h3 h7 h8).mono ?_
  rintro e x ⟨A', rfl, k1, k2, k3⟩
  have hn : ∀ k, k < w.heap.size → ¬ A k → ¬ A' k := fun k hk hA hj => by
    rcases k2 k hj with e | e
    · exact hA e
    · omega
  refine ⟨fun k => k = b ∨ k = q ∨ A' k ∨ cv.ownBlock = some k, rfl, ⟨q, g, A', cv, ms, fl, h1.butS k3 h7, h2.butS k3 h8, k1, own_butS h4 k3 h6, h5, fun i hi => hn i (h4.lt i hi).2 (h6 i hi), hn b h1.lt h7, hn q h2.lt h8, h9, h10, fun k => Iff.rfl⟩, fun k hk => ?_, k3.mono fun k _ hk => (h11 k).2 (.inr (.inr (.inl hk)))⟩
  rcases hk with rfl | rfl | hk | hk
  · exact .inl ((h11 _).2 (.inl rfl))
  · exact .inl ((h11 _).2 (.inr (.inl rfl)))
  · rcases k2 k hk with e | e
    · exact .inl ((h11 k).2 (.inr (.inr (.inl e))))
    · exact .inr e
  · exact .inl ((h11 k).2 (.inr (.inr (.inr hk))))
/-- A state and a store. -/
def TwS (S : Nat → Prop) (w : World) (b m : Nat) (L : List EntT) (ep hz : Int) (f : Fv) (la ce : Int) (n : Nat) : Prop :=
  ∃ A D, StO A w b L ep hz ∧ MvO D w m f la ce n ∧ (∀ k, A k → D k → False) ∧ ∀ k, S k ↔ (A k ∨ D k)
theorem TwS.ofS (h : TwS S w b m L ep hz f la ce n) : ∀ k, S k → k < w.heap.size := by
  obtain ⟨A, D, h1, h2, h3, h4⟩ := h
  intro k hk
  rcases (h4 k).1 hk with hk | hk
  · exact h1.ofS k hk
  · exact h2.ofS k hk
theorem TwS.keep (h : TwS S w b m L ep hz f la ce n) (hk : ∀ k, S k → x.heap[k]? = w.heap[k]?) (hz' : w.heap.size ≤ x.heap.size) : TwS S x b m L ep hz f la ce n := by
  obtain ⟨A, D, h1, h2, h3, h4⟩ := h
  exact ⟨A, D, h1.keep (fun k hA => hk k ((h4 k).2 (.inl hA))) hz', h2.keep (fun k hD => hk k ((h4 k).2 (.inr hD))) hz', h3, h4⟩
theorem TwS.gr {row : Option Nat} (h : TwS S w b m L ep hz f la ce n) (hg : w.grownBy x row) (hr : ∀ k, row = some k → ¬ S k) : TwS S x b m L ep hz f la ce n :=
  h.keep (fun q hq => hg.block q (h.ofS q hq) (fun e => hr q e.symm hq)) hg.size
theorem TwS.but (h : TwS S w b m L ep hz f la ce n) (hb : But D w x) (ha : ∀ q, S q → D q → False) : TwS S x b m L ep hz f la ce n :=
  h.keep (fun q hq => hb.block q (h.ofS q hq) (fun hd => ha q hq hd)) hb.size
theorem TwS.re {A D A' : Nat → Prop} {L' : List EntT} {ep' hz' : Int} (h2 : MvO D w m f la ce n) (h3 : ∀ k, A k → D k → False) (h4 : ∀ k, S k ↔ (A k ∨ D k)) (k1 : StO A' x b L' ep' hz') (g : Grew A A' w x) :
    ∃ S', TwS S' x b m L' ep' hz' f la ce n ∧ Grew S S' w x :=
  ⟨fun k => A' k ∨ D k, ⟨A', D, k1, h2.but g.but (fun q h5 h6 => h3 q h5 h6), fun k h5 h6 => (g.sub k h5).elim (fun j => h3 k j h6) (fun j => by have := h2.ofS k h6; omega), fun k => Iff.rfl⟩, fun k hk => by
    rcases hk with hk | hk
    · exact (g.sub k hk).imp (fun j => (h4 k).2 (.inl j)) id
    · exact .inl ((h4 k).2 (.inr hk)), g.but.mono fun k _ hk => (h4 k).2 (.inl hk)⟩
theorem twNew (w : World) (h : StO S w b L ep hz) : Calls Try.prog 14 #[] w fun e w' => ∃ (N : Nat) (S' : Nat → Prop), e = .returned (pt N 0) ∧ TwS S' w' b N L ep hz (fun _ => []) 0 0 0 ∧ Grew S S' w w' := by
  refine (mvNew w).mono ?_
  rintro e x ⟨N, D, rfl, k1, k2, k3⟩
  refine ⟨N, fun k => S k ∨ D k, rfl, ⟨S, D, h.gr (below_grown k3) (fun k e => by cases e), k1, fun k h1 h2 => by have := h.ofS k h1; have := k2 k h2; omega, fun k => Iff.rfl⟩, fun k hk => hk.imp id (k2 k), ?_⟩
  exact But.of_below k3
theorem twStamped (w : World) (h : TwS S w b m L ep hz f la ce n) : Calls Try.prog 19 #[pt b 0] w fun e w' => ∃ S' : Nat → Prop, e = .returned (.int .i64 (stN L : Nat)) ∧ TwS S' w' b m L ep hz f la ce n ∧ Grew S S' w w' := by
  obtain ⟨A, D, h1, h2, h3, h4⟩ := h
  refine (stStamped w h1).mono ?_
  rintro e x ⟨A', rfl, k1, g⟩
  obtain ⟨S', q1, q2⟩ := TwS.re h2 h3 h4 k1 g
  exact ⟨S', rfl, q1, q2⟩
theorem twApply (w : World) (d : NoteD) (mv lv ev : Value) (h : TwS S w b m L ep hz f la ce n) (hm : SliceOf memE 2 w mv d.ms) (hg : SliceOf (intE .i64) 1 w lv d.lg) (he : SliceOf opE 3 w ev d.el) (hR : NoteR d)
    (hbm : d.ms ≠ [] → ∀ k, mv.ownBlock = some k → ¬ S k) (hbg : d.lg ≠ [] → ∀ k, lv.ownBlock = some k → ¬ S k) (hbe : d.el ≠ [] → ∀ k, ev.ownBlock = some k → ¬ S k) :
    Calls Try.prog 11 #[pt b 0, .agg #[.int .i64 d.k, .int .i64 d.n, .int .u64 d.t, .int .i64 d.ep, mv, .int .u64 d.fl, lv, .int .i64 d.ec, .int .i64 d.er, ev, .int .u64 d.ets, .int .i64 d.pid, .int .u64 d.pat, .int .i64 d.plf, .int .i64 d.sc, .int .i64 d.sr, .int .i64 d.se, .int .i64 d.sp]] w fun e w' =>
      ∃ (r : Int) (L' : List EntT) (ep' hz' : Int) (S' : Nat → Prop), e = .returned (.int .i64 r) ∧ TwS S' w' b m L' ep' hz' f la ce n ∧ ApR d ep hz L r ep' hz' L' ∧ Grew S S' w w' := by
  obtain ⟨A, D, h1, h2, h3, h4⟩ := h
  refine (stApply w d mv lv ev h1 hm hg he hR (fun hn k hk hj => hbm hn k hk ((h4 k).2 (.inl hj))) (fun hn k hk hj => hbg hn k hk ((h4 k).2 (.inl hj))) (fun hn k hk hj => hbe hn k hk ((h4 k).2 (.inl hj)))).mono ?_
  rintro e x ⟨r, L', ep', hz', A', rfl, k1, k2, g⟩
  obtain ⟨S', q1, q2⟩ := TwS.re h2 h3 h4 k1 g
  exact ⟨r, L', ep', hz', S', rfl, q1, k2, q2⟩
theorem twGet (w : World) (k : ByteArray) (t : Int) (h : TwS S w b m L ep hz f la ce n) :
    Calls Try.prog 28 #[pt m 0, .string k, .int .u64 t] w fun e w' => e = .returned (.tuple #[.string (atS (f k) t).1, .bool (atS (f k) t).2]) ∧ Below w.heap.size w w' := by
  obtain ⟨A, D, h1, h2, h3, h4⟩ := h
  exact mvGet w k t h2
theorem twFeed1 (w : World) (v : Value) (h : TwS S w b m [enA v 5] ep hz (fun _ => []) 0 0 0) :
    Calls Try.prog 15 #[pt b 0, pt m 0, .int .i64 0, .int .i64 9] w fun e w' => ∃ S' : Nat → Prop, e = .returned (.int .i64 1) ∧ TwS S' w' b m [enA v 5] ep hz (mvF (fun _ => []) 0 5 [opA]) (mvLa 0 5 [opA]) (mvCe 0 5 0 [opA]) 1 ∧ Grew S S' w w' := by
  obtain ⟨A0, D, ⟨q, g, A, cv, ms, fl, h1, h2, h3, h4, h5, h6, h7, h8, h9, h10, h11⟩, i2, i3, i4⟩ := h
  have dA : ∀ k, A k → D k → False := fun k ha hd => i3 k ((h11 k).2 (.inr (.inr (.inl ha)))) hd
  have dv : ∀ k, cv.ownBlock = some k → ¬ D k := fun k ha hd => i3 k ((h11 k).2 (.inr (.inr (.inr ha)))) hd
  have db : ¬ D b := fun hd => i3 b ((h11 b).2 (.inl rfl)) hd
  have dq : ¬ D q := fun hd => i3 q ((h11 q).2 (.inr (.inl rfl))) hd
  refine (rsFeed1_blk b q g A v ep cv fl hz m D w h1 h2 h3 h7 h8 i2 dA db dq).mono ?_
  rintro e x ⟨A', D', rfl, k1, k2, k3, k4, k5, k6⟩
  have hn : ∀ k, k < w.heap.size → ¬ A k → ¬ A' k := fun k hk hA hj => by
    rcases k3 k hj with e | e
    · exact hA e
    · omega
  have hd : ∀ k, k < w.heap.size → ¬ D k → ¬ D' k := fun k hk hA hj => by
    rcases k4 k hj with e | e
    · exact hA e
    · omega
  refine ⟨fun k => (k = b ∨ k = q ∨ A' k ∨ cv.ownBlock = some k) ∨ D' k, rfl, ⟨fun k => k = b ∨ k = q ∨ A' k ∨ cv.ownBlock = some k, D', ⟨q, g, A', cv, ms, fl, h1.butS k6 (by rintro (e | e); exact h7 e; exact db e), h2.butS k6 (by rintro (e | e); exact h8 e; exact dq e), k1, own_butS h4 k6 (fun i hi => by rintro (e | e); exact h6 i hi e; exact dv i hi e), h5, fun i hi => hn i (h4.lt i hi).2 (h6 i hi), hn b h1.lt h7, hn q h2.lt h8, h9, h10, fun k => Iff.rfl⟩, k2, ?_, fun k => Iff.rfl⟩, fun k hk => ?_, k6.mono fun k _ hk => (i4 k).2 (hk.imp (fun j => (h11 k).2 (.inr (.inr (.inl j)))) id)⟩
  · rintro k (rfl | rfl | hk | hk) hD
    · exact hd _ h1.lt db hD
    · exact hd _ h2.lt dq hD
    · exact k5 k hk hD
    · exact hd k (h4.lt k hk).2 (dv k hk) hD
  · rcases hk with (rfl | rfl | hk | hk) | hk
    · exact .inl ((i4 _).2 (.inl ((h11 _).2 (.inl rfl))))
    · exact .inl ((i4 _).2 (.inl ((h11 _).2 (.inr (.inl rfl)))))
    · rcases k3 k hk with e | e
      · exact .inl ((i4 k).2 (.inl ((h11 k).2 (.inr (.inr (.inl e))))))
      · exact .inr e
    · exact .inl ((i4 k).2 (.inl ((h11 k).2 (.inr (.inr (.inr hk))))))
    · rcases k4 k hk with e | e
      · exact .inl ((i4 k).2 (.inr e))
      · exact .inr e
end
end Go.Proofs.Ytkjnhghniopnoaa

/- Package rstate: Horizon, Conf, All of one that was made. Conditions: none. -/
namespace Go.Proofs.Ytkjnhghniopnoaa
open Go.RowKit Go.PlainAid
set_option linter.unusedVariables false
set_option linter.unusedSimpArgs false

set_option maxRecDepth 100000 in
theorem rsAll_blk (b : Nat) (q : Nat) (g : Nat) (S : Nat → Prop) (L : List EntT) (ep : Int) (cv : Value) (fl : Int) (hz : Int) (w : World) (hb : Blk w b 68 #[pt q 0]) (hq : Blk w q 80 #[pt g 0, .int .i64 ep, cv, .int .u64 fl, .int .u64 hz]) (hL : LObj S w g L) (hSb : ¬ S b) (hSq : ¬ S q) :
    Calls Try.prog 13 #[pt b 0] w fun e w' => ∃ (L2 : List EntT) (u2 : Value) (S' : Nat → Prop), e = .returned (u2) ∧ w'.ownsRow w.heap.size 40 4 u2 L2.length (L2.flatMap entE) ∧ EntsK (fun _ => False) w.heap.size w' L2 ∧ L2.map e0 = L.map e0 ∧ LObj S' w' g L ∧ (∀ k, S' k → S k ∨ w.heap.size ≤ k) ∧ But (S) w w' := by
 have hlq := hq.lt
 have hlb := hb.lt
 have hB0 := But.refl (S) w
 have hl_hb := hb.lt
 have hl_hq := hq.lt
 have hinS : ∀ k, S k → S k ∨ w.heap.size ≤ k := fun k hk => .inl hk
 refine co_enter (n := 9) Try.func13 rfl rfl rfl [(0, pt b 0)] rfl (fun a h0 => ?_)
 refine co_seq ?_
 refine co_reg ?_
 refine pk0 (v := .slice none 0 0) h0 rfl fun a1 h1 => ?_; clear h0
 refine pl_nil ?_
 refine co_then ?_
 refine co_seq ?_
 refine co_reg ?_
 refine pk0 (v := pt b 0) h1 rfl fun a2 h2 => ?_; clear h1
 refine pw h2 rfl (op_call (args := #[pt b 0]) (R := fun res xw => res = pt q 0 ∧ w = xw) rfl rfl rfl (by kernel_rfl) (by kernel_rfl) (Try.call30 _ _) (rsgetT b q w hb) (by rintro e x ⟨rfl, rfl⟩; exact ⟨_, rfl, ⟨rfl, rfl⟩⟩)) ?_; clear h2
 rintro _ _ a3 ⟨rfl, rfl⟩ h3
 refine pk0 (v := pt q 0) h3 rfl fun a6 h6 => ?_; clear h3
 refine pk0 (v := pt q 0) h6 rfl fun a7 h7 => ?_; clear h6
 refine pk (v := pt g 0) h7 rfl (rn_load1 rfl rfl Try.isAgg77 (hq.cell rfl)) fun a8 h8 => ?_; clear h7
 refine pw h8 rfl (op_call (args := #[pt g 0]) (R := fun res xw => ∃ L2 : List EntT, ∃ u2 : Value, ∃ S' : Nat → Prop, res = u2 ∧ LObj S' xw g L ∧ (xw.ownsRow w.heap.size 40 4 u2 L2.length (L2.flatMap entE)) ∧ (EntsK (fun _ => False) w.heap.size xw L2) ∧ (L2.map e0 = L.map e0) ∧ Grew S S' w xw) rfl rfl rfl (by kernel_rfl) (by kernel_rfl) (Try.call39 _ _) (tAll w hL) (by rintro e x ⟨L2, u2, S', h0, h1, h2, h3, h4, h5, h6⟩; exact ⟨_, h0, L2, u2, S', rfl, h4, h1, h2, h3, h6⟩)) ?_; clear h8
 rintro u212 w10 a9 ⟨L211, _, S13, rfl, hO14, hq16, hq17, hq18, hx15⟩ h9
 have hB19 := fbU_foot hB0 hx15.but (fun i hi hq => by rcases hinS i hq with k | k; exact k; omega)
 have hz20 := hB19.size
 have hz21 := hx15.but.size
 have hin22 : ∀ k, S13 k → (S k) ∨ w.heap.size ≤ k := fun k hk => by rcases hx15.sub k hk with j | j; exact hinS k j; exact .inr (by omega)
 refine pk0 (v := u212) h9 rfl fun a23 h23 => ?_; clear h9
 refine pl_nil ?_
 refine co_then ?_
 refine wp_ret ?_
 refine co_ret1 h23 rfl rfl ?_
 exact ⟨_, _, _, rfl, hq16, hq17, hq18, hO14, hin22, hB19⟩
end Go.Proofs.Ytkjnhghniopnoaa

/- Package rstate: Horizon, Conf, All of a state as an object. Conditions: none. -/
namespace Go.Proofs.Ytkjnhghniopnoaa
open Go.RowKit Go.PlainAid
set_option linter.unusedVariables false
set_option linter.unusedSimpArgs false

section
variable {S D A : Nat → Prop} {w x : World} {b : Nat} {L : List EntT} {ep hz : Int}
theorem stAll (w : World) (h : StO S w b L ep hz) : Calls Try.prog 13 #[pt b 0] w fun e w' => ∃ (L2 : List EntT) (u2 : Value) (S' : Nat → Prop), e = .returned u2 ∧ StO S' w' b L ep hz ∧ w'.ownsRow w.heap.size 40 4 u2 L2.length (L2.flatMap entE) ∧ EntsK (fun _ => False) w.heap.size w' L2 ∧ L2.map e0 = L.map e0 ∧ Grew S S' w w' := by
  obtain ⟨q, g, A, cv, ms, fl, h1, h2, h3, h4, h5, h6, h7, h8, h9, h10, h11⟩ := h
  refine (rsAll_blk b q g A L ep cv fl hz w h1 h2 h3 h7 h8).mono ?_
  rintro e x ⟨L2, u2, A', rfl, j1, j2, j3, k1, k2, k3⟩
  have hn : ∀ k, k < w.heap.size → ¬ A k → ¬ A' k := fun k hk hA hj => by
    rcases k2 k hj with e | e
    · exact hA e
    · omega
  refine ⟨L2, u2, fun k => k = b ∨ k = q ∨ A' k ∨ cv.ownBlock = some k, rfl, ⟨q, g, A', cv, ms, fl, h1.butS k3 h7, h2.butS k3 h8, k1, own_butS h4 k3 h6, h5, fun i hi => hn i (h4.lt i hi).2 (h6 i hi), hn b h1.lt h7, hn q h2.lt h8, h9, h10, fun k => Iff.rfl⟩, j1, j2, j3, fun k hk => ?_, k3.mono fun k _ hk => (h11 k).2 (.inr (.inr (.inl hk)))⟩
  rcases hk with rfl | rfl | hk | hk
  · exact .inl ((h11 _).2 (.inl rfl))
  · exact .inl ((h11 _).2 (.inr (.inl rfl)))
  · rcases k2 k hk with e | e
    · exact .inl ((h11 k).2 (.inr (.inr (.inl e))))
    · exact .inr e
  · exact .inl ((h11 k).2 (.inr (.inr (.inr hk))))
end
end Go.Proofs.Ytkjnhghniopnoaa

/- Package rstate: Feed. Conditions: at most 100 entries. -/
namespace Go.Proofs.Ytkjnhghniopnoaa
open Go.RowKit Go.PlainAid
set_option linter.unusedVariables false
set_option linter.unusedSimpArgs false


theorem atE_okL {A : Nat → Prop} {w : World} {b : Nat} {L : List EntT} (h : LObj A w b L) (i : Int) : (atE L i).opl.length ≤ 20 ∧ 0 ≤ (atE L i).ts ∧ (atE L i).ts < 18446744073709551616 := by
  obtain ⟨_, M, u, hl⟩ := h
  by_cases hi : i < 0 ∨ (L.length : Int) ≤ i
  · rw [atE_n hi]; decide
  · obtain ⟨y, hy⟩ : ∃ y, L[i.toNat]? = some y := ⟨_, List.getElem?_eq_getElem (by omega)⟩
    rw [atE_y hi hy]
    have h := hl.ents y (List.mem_of_getElem? hy)
    exact ⟨h.len, h.ts0, h.ts1⟩
abbrev FdT := Fv × Int × Int
/-- What a store comes to by an entry. -/
noncomputable def fd1 (x : FdT) (e : EntT) : FdT := (mvF x.1 x.2.1 e.ts e.opl, mvLa x.2.1 e.ts e.opl, mvCe x.2.1 e.ts x.2.2 e.opl)
/-- .. by the entries from a on, ahead of z. -/
noncomputable def fdI (x : FdT) (L : List EntT) (a z : Int) : FdT := ((L.take z.toNat).drop a.toNat).foldl fd1 x
theorem fdI_0 (x : FdT) (L : List EntT) (a : Int) : fdI x L a a = x := by
  unfold fdI; rw [List.drop_eq_nil_of_le (by rw [List.length_take]; omega)]; rfl
theorem fdI_at {x : FdT} {L : List EntT} {a z : Int} (h0 : 0 ≤ a) (h1 : a ≤ z) (h2 : z < L.length) : fdI x L a (z + 1) = fd1 (fdI x L a z) (atE L z) := by
  obtain ⟨y, hy⟩ : ∃ y, L[z.toNat]? = some y := ⟨_, List.getElem?_eq_getElem (by omega)⟩
  rw [atE_y (by omega) hy]
  unfold fdI
  rw [show (z + 1).toNat = z.toNat + 1 from by omega, takeE hy, List.drop_append_of_le_length (by rw [List.length_take]; omega), List.foldl_append]; rfl

set_option maxRecDepth 100000 in
set_option maxHeartbeats 1600000 in
theorem rsFeed_blk (b : Nat) (q : Nat) (g : Nat) (S : Nat → Prop) (L : List EntT) (ep : Int) (cv : Value) (fl : Int) (hz : Int) (m : Nat) (D : Nat → Prop) (f : Fv) (la : Int) (ce : Int) (n : Nat) (i : Int) (j : Int) (w : World) (hb : Blk w b 68 #[pt q 0]) (hq : Blk w q 80 #[pt g 0, .int .i64 ep, cv, .int .u64 fl, .int .u64 hz]) (hL : LObj S w g L) (hSb : ¬ S b) (hSq : ¬ S q) (hV : MvO D w m f la ce n) (hap : ∀ k, S k → D k → False) (hDb : ¬ D b) (hDq : ¬ D q) (hn : (n : Int) + stN L - mxI i 0 ≤ 100) (hlen : L.length ≤ 100) :
    Calls Try.prog 15 #[pt b 0, pt m 0, .int .i64 i, .int .i64 j] w fun e w' => ∃ (r : Nat) (S' : Nat → Prop) (D' : Nat → Prop), e = .returned (.int .i64 (mxI (mxI i 0) (mnI j ((stN L : Nat) : Int)))) ∧ LObj S' w' g L ∧ MvO D' w' m (fdI (f, la, ce) L (mxI i 0) (mxI (mxI i 0) (mnI j ((stN L : Nat) : Int)))).1 (fdI (f, la, ce) L (mxI i 0) (mxI (mxI i 0) (mnI j ((stN L : Nat) : Int)))).2.1 (fdI (f, la, ce) L (mxI i 0) (mxI (mxI i 0) (mnI j ((stN L : Nat) : Int)))).2.2 (n + r) ∧ (∀ k, S' k → S k ∨ w.heap.size ≤ k) ∧ (∀ k, D' k → D k ∨ w.heap.size ≤ k) ∧ (∀ k, S' k → D' k → False) ∧ (mxI (mxI i 0) (mnI j ((stN L : Nat) : Int))) = mxI i 0 + r ∧ But (fun k => S k ∨ D k) w w' := by
 have hlq := hq.lt
 have hlb := hb.lt
 have hst := stN_le L
 have hmx := mxI_p i 0
 have hmn := mnI_p j ((stN L : Nat) : Int)
 have hB0 := But.refl (fun k => S k ∨ D k) w
 have hl_hb := hb.lt
 have hl_hq := hq.lt
 have hinS : ∀ k, S k → S k ∨ w.heap.size ≤ k := fun k hk => .inl hk
 have hinD : ∀ k, D k → D k ∨ w.heap.size ≤ k := fun k hk => .inl hk
 refine co_enter (n := 51) Try.func15 rfl rfl rfl [(0, pt b 0), (1, pt m 0), (2, .int .i64 i), (3, .int .i64 j)] rfl (fun a h0 => ?_)
 refine co_seq ?_
 refine co_reg ?_
 refine pk0 (v := .int .i64 0) h0 rfl fun a1 h1 => ?_; clear h0
 refine pl_nil ?_
 refine co_then ?_
 refine co_seq ?_
 refine co_reg ?_
 refine pk0 (v := pt b 0) h1 rfl fun a2 h2 => ?_; clear h1
 refine pw h2 rfl (op_call (args := #[pt b 0]) (R := fun res xw => res = pt q 0 ∧ w = xw) rfl rfl rfl (by kernel_rfl) (by kernel_rfl) (Try.call30 _ _) (rsgetT b q w hb) (by rintro e x ⟨rfl, rfl⟩; exact ⟨_, rfl, ⟨rfl, rfl⟩⟩)) ?_; clear h2
 rintro _ _ a3 ⟨rfl, rfl⟩ h3
 refine pk0 (v := pt q 0) h3 rfl fun a6 h6 => ?_; clear h3
 refine pl_nil ?_
 refine co_then ?_
 refine co_seq ?_
 refine co_seq ?_
 refine co_reg ?_
 refine pk0 (v := pt q 0) h6 rfl fun a7 h7 => ?_; clear h6
 refine pw h7 rfl (op_call (args := #[pt q 0]) (R := fun res xw => res = .bool false ∧ w = xw) rfl rfl rfl (by kernel_rfl) (by kernel_rfl) (Try.call32 _ _) (rszeroT q g ep cv fl hz w hq) (by rintro e x ⟨rfl, rfl⟩; exact ⟨_, rfl, ⟨rfl, rfl⟩⟩)) ?_; clear h7
 rintro _ _ a8 ⟨rfl, rfl⟩ h8
 refine pl_nil ?_
 refine co_then ?_
 refine co_false h8 rfl ?_
 refine wp_skip ?_
 refine co_then ?_
 refine co_seq ?_
 refine co_reg ?_
 refine pk0 (v := .int .i64 i) h8 rfl fun a11 h11 => ?_; clear h8
 have hmm12 := mxI_p i 0
 refine pk0 (v := .int .i64 (mxI i 0)) h11 rfl fun a13 h13 => ?_; clear h11
 refine pk0 (v := .int .i64 (mxI i 0)) h13 rfl fun a14 h14 => ?_; clear h13
 refine pl_nil ?_
 refine co_then ?_
 refine co_seq ?_
 refine co_reg ?_
 refine pk0 (v := .int .i64 j) h14 rfl fun a15 h15 => ?_; clear h14
 refine pk0 (v := pt q 0) h15 rfl fun a16 h16 => ?_; clear h15
 refine pk0 (v := pt q 0) h16 rfl fun a17 h17 => ?_; clear h16
 refine pk0 (v := pt q 0) h17 rfl fun a18 h18 => ?_; clear h17
 refine pk (v := pt g 0) h18 rfl (rn_load1 rfl rfl Try.isAgg77 (hq.cell rfl)) fun a19 h19 => ?_; clear h18
 refine pw h19 rfl (op_call (args := #[pt g 0]) (R := fun res xw => ∃ S' : Nat → Prop, res = .int .i64 ((stN L : Nat) : Int) ∧ LObj S' xw g L ∧ Grew S S' w xw) rfl rfl rfl (by kernel_rfl) (by kernel_rfl) (Try.call41 _ _) (tStamped w hL) (by rintro e x ⟨S', h0, h⟩; exact ⟨_, h0, S', rfl, h⟩)) ?_; clear h19
 rintro _ w21 a20 ⟨S22, rfl, hO23, hx24⟩ h20
 have hB25 := fbU_foot hB0 hx24.but (fun i hi hq => by rcases hinS i hq with k | k; (first | exact k | exact .inl k | exact .inr k); omega)
 have hz26 := hB25.size
 have hz27 := hx24.but.size
 have hin28 : ∀ k, S22 k → (S k) ∨ w.heap.size ≤ k := fun k hk => by rcases hx24.sub k hk with j | j; exact hinS k j; exact .inr (by omega)
 have hmm29 := mnI_p j ((stN L : Nat) : Int)
 refine pk0 (v := .int .i64 (mnI j ((stN L : Nat) : Int))) h20 rfl fun a30 h30 => ?_; clear h20
 refine pk0 (v := .int .i64 (mnI j ((stN L : Nat) : Int))) h30 rfl fun a31 h31 => ?_; clear h30
 refine pl_nil ?_
 refine co_then ?_
 refine co_seq ?_
 refine co_seq ?_
 refine co_reg ?_
 refine pk0 (v := .int .i64 (mxI i 0)) h31 rfl fun a32 h32 => ?_; clear h31
 refine pk0 (v := .int .i64 (mxI i 0)) h32 rfl fun a33 h33 => ?_; clear h32
 refine pl_nil ?_
 refine co_then ?_
 refine wp_block ?_
 have hi9 := hin28
 have hj9 := hinD
 have hp9 := (ap_symm (ap_symm (Grew.ap hx24 (ap_symm (ap_symm hap)) (MvO.ofS hV))))
 have h34 : Slots 51 [(1, pt m 0), (2, .int .i64 (mxI i 0)), (3, .int .i64 (mnI j ((stN L : Nat) : Int))), (9, pt q 0), (10, .int .i64 (mxI i 0))] _ := h33.sub ⟨rfl, rfl, rfl, rfl, rfl, trivial⟩; clear h33
 refine co_loop (fun mm a x => ∃ (z : Int) (r : Nat) (SA : Nat → Prop) (DA : Nat → Prop), Slots 51 [(1, pt m 0), (2, .int .i64 (mxI i 0)), (3, .int .i64 (mnI j ((stN L : Nat) : Int))), (9, pt q 0), (10, .int .i64 z)] a ∧ mm = (L.length - z).toNat ∧ (z = (mxI i 0) + r) ∧ (z ≤ (mnI j ((stN L : Nat) : Int)) ∨ r = 0) ∧ (∀ k, SA k → S k ∨ w.heap.size ≤ k) ∧ (∀ k, DA k → D k ∨ w.heap.size ≤ k) ∧ (∀ k, SA k → DA k → False) ∧ Blk x q 80 #[pt g 0, .int .i64 ep, cv, .int .u64 fl, .int .u64 hz] ∧ LObj SA x g L ∧ MvO DA x m (fdI (f, la, ce) L (mxI i 0) z).1 (fdI (f, la, ce) L (mxI i 0) z).2.1 (fdI (f, la, ce) L (mxI i 0) z).2.2 (n + r) ∧ But (fun k => S k ∨ D k) w x) ((L.length - (mxI i 0)).toNat) ?_ ?_
 have hk35 := Blk.butS hq hx24.but hSq
 have hO36 := mvo_butR hV hx24.but (ap_symm hap)
 · exact ⟨mxI i 0, 0, S22, D, h34.sub ⟨rfl, rfl, rfl, rfl, rfl, trivial⟩, rfl, by omega, by omega, by exact hi9, by exact hj9, by exact hp9, hk35, hO23, (by rw [fdI_0]; exact hO36), hB25⟩
 · rintro k37 a38 w39 ⟨z, r, SA, DA, h38, rfl, hi40, hi41, hi42, hi43, hi44, hf45, hf46, hf47, hB48⟩
   have hz49 := hB48.size
   have hl50 := hf45.lt
   have hinA : ∀ k, SA k → S k ∨ w.heap.size ≤ k := by assumption
   have hinB : ∀ k, DA k → D k ∨ w.heap.size ≤ k := by assumption
   have hapA : ∀ k, SA k → DA k → False := by assumption
   have hn51 : ¬ SA b := fun hj => by rcases hinA b hj with e | e; exact hSb e; omega
   have hn52 : ¬ SA q := fun hj => by rcases hinA q hj with e | e; exact hSq e; omega
   have hn53 : ¬ DA b := fun hj => by rcases hinB b hj with e | e; exact hDb e; omega
   have hn54 : ¬ DA q := fun hj => by rcases hinB q hj with e | e; exact hDq e; omega
   refine co_seq ?_
   refine co_seq ?_
   refine co_reg ?_
   refine pk0 (v := .int .i64 z) h38 rfl fun a55 h55 => ?_; clear h38
   refine pk0 (v := .int .i64 (mnI j ((stN L : Nat) : Int))) h55 rfl fun a56 h56 => ?_; clear h55
   refine pk0 (v := .bool (decide (z < mnI j ((stN L : Nat) : Int)))) h56 rfl fun a57 h57 => ?_; clear h56
   refine pl_nil ?_
   refine co_then ?_
   cases hc58 : (decide (z < mnI j ((stN L : Nat) : Int)))
   ·
    rw [hc58] at h57
    have hp59 : ¬ (z < mnI j ((stN L : Nat) : Int)) := of_decide_eq_false hc58
    clear hc58
    refine co_false h57 rfl ?_
    refine wp_exit ?_
    refine co_thenX ?_
    refine co_thenX ?_
    refine co_blockX ?_
    refine co_then ?_
    refine co_seq ?_
    refine co_reg ?_
    refine pk0 (v := .int .i64 (mxI i 0)) h57 rfl fun a60 h60 => ?_; clear h57
    refine pk0 (v := .int .i64 (mnI j ((stN L : Nat) : Int))) h60 rfl fun a61 h61 => ?_; clear h60
    have hmm62 := mxI_p (mxI i 0) (mnI j ((stN L : Nat) : Int))
    refine pk0 (v := .int .i64 (mxI (mxI i 0) (mnI j ((stN L : Nat) : Int)))) h61 rfl fun a63 h63 => ?_; clear h61
    refine pk0 (v := .int .i64 (mxI (mxI i 0) (mnI j ((stN L : Nat) : Int)))) h63 rfl fun a64 h64 => ?_; clear h63
    refine pl_nil ?_
    refine co_then ?_
    refine wp_ret ?_
    refine co_ret1 h64 rfl rfl ?_
    obtain rfl : z = (mxI (mxI i 0) (mnI j ((stN L : Nat) : Int))) := by omega
    exact ⟨_, _, _, rfl, hf46, hf47, hinA, hinB, hapA, by omega, hB48⟩
   ·
    rw [hc58] at h57
    have hp65 : z < mnI j ((stN L : Nat) : Int) := of_decide_eq_true hc58
    clear hc58
    refine co_true h57 rfl ?_
    refine wp_skip ?_
    refine co_then ?_
    refine co_seq ?_
    refine wp_block ?_
    refine co_seq ?_
    refine co_reg ?_
    refine pk0 (v := pt q 0) h57 rfl fun a66 h66 => ?_; clear h57
    refine pk0 (v := pt q 0) h66 rfl fun a67 h67 => ?_; clear h66
    refine pk0 (v := pt q 0) h67 rfl fun a68 h68 => ?_; clear h67
    refine pk (v := pt g 0) h68 rfl (rn_load1 rfl rfl Try.isAgg77 (hf45.cell rfl)) fun a69 h69 => ?_; clear h68
    refine pk0 (v := .int .i64 z) h69 rfl fun a70 h70 => ?_; clear h69
    have ho73 := LObj.ofS hf46
    have ho74 := MvO.ofS hf47
    refine pw h70 rfl (op_call (args := #[pt g 0, .int .i64 z]) (R := fun res xw => ∃ ev : Value, ∃ S' : Nat → Prop, res = .tuple #[.agg #[.int .i64 ((atE L z).client), .int .i64 ((atE L z).req), ev, .int .u64 ((atE L z).ts)], .bool (atV L z)] ∧ LObj S' xw g L ∧ (xw.ownsRow w39.heap.size 74 3 ev (atE L z).opl.length ((atE L z).opl.flatMap opE)) ∧ (∀ q, S' q → q < w39.heap.size) ∧ Grew SA S' w39 xw) rfl rfl rfl (by kernel_rfl) (by kernel_rfl) (Try.call42 _ _) (tAt w39 z hf46) (by rintro e x ⟨ev, S', h0, h1, h2, h3, h4⟩; exact ⟨_, h0, ev, S', rfl, h2, h1, h3, h4⟩)) ?_; clear h70
    rintro _ w72 a71 ⟨ev75, S76, rfl, hO77, hq79, hq80, hx78⟩ h71
    have hB81 := fbU_foot hB48 hx78.but (fun i hi hq => by rcases hinA i hq with k | k; (first | exact k | exact .inl k | exact .inr k); omega)
    have hz82 := hB81.size
    have hz83 := hx78.but.size
    have hin84 : ∀ k, S76 k → (S k) ∨ w.heap.size ≤ k := fun k hk => by rcases hx78.sub k hk with j | j; exact hinA k j; exact .inr (by omega)
    have hok85 := atE_okL hO77 z
    refine pk0 (v := .tuple #[.agg #[.int .i64 ((atE L z).client), .int .i64 ((atE L z).req), ev75, .int .u64 ((atE L z).ts)], .bool (atV L z)]) h71 rfl fun a86 h86 => ?_; clear h71
    refine pk0 (v := .agg #[.int .i64 ((atE L z).client), .int .i64 ((atE L z).req), ev75, .int .u64 ((atE L z).ts)]) h86 rfl fun a87 h87 => ?_; clear h86
    refine pk0 (v := .bool (atV L z)) h87 rfl fun a88 h88 => ?_; clear h87
    refine pw h88 rfl (op_new (v := fun N => pt N 0) (T := 40) (cs := #[.int .i64 0, .int .i64 0, .slice none 0 0, .int .u64 0]) (by kernel_rfl) (by kernel_rfl) (by kernel_rfl)) ?_; clear h88
    rintro _ w90 a89 ⟨N91, rfl, hN94, hz95, hk93, hg92⟩ h89
    have ha96 := row_fresh hq79 hN94
    have hu97 := row_under hq79 hN94
    have hz98 := hg92.size
    have hO100 := mvo_butR hf47 hx78.but (ap_symm hapA)
    have ho99 := off_new (MvO.ofS hO100) hN94
    have ho101 := off_new (LObj.ofS hO77) hN94
    try dsimp only at h89
    have hr107 := row_kept_new hq79 hg92
    refine pwD h89 rfl (op_storeN rfl rfl rfl (all_cons rfl (all_cons rfl (all_cons (row_one hr107) (all_cons rfl all_nil)))) (by kernel_rfl) hk93 rfl) ?_; clear h89
    rintro _ w103 a102 ⟨hk104, hz105, hg106⟩ h102
    have hk104' : Blk w103 N91 40 #[.int .i64 ((atE L z).client), .int .i64 ((atE L z).req), ev75, .int .u64 ((atE L z).ts)] := hk104; clear hk104
    have hz108 := hg106.size
    refine pk0 (v := .bool (atV L z)) h102 rfl fun a109 h109 => ?_; clear h102
    refine pl_nil ?_
    refine co_then ?_
    refine co_reg ?_
    refine pk0 (v := pt m 0) h109 rfl fun a110 h110 => ?_; clear h109
    refine pk0 (v := pt N91 3) h110 rfl fun a111 h111 => ?_; clear h110
    refine pk (v := .int .u64 ((atE L z).ts)) h111 rfl (rn_load1 rfl rfl Try.isAgg27 (hk104'.cell rfl)) fun a112 h112 => ?_; clear h111
    refine pk0 (v := pt N91 0) h112 rfl fun a113 h113 => ?_; clear h112
    refine pk0 (v := pt N91 2) h113 rfl fun a114 h114 => ?_; clear h113
    refine pk (v := ev75) h114 rfl (rn_load1 rfl rfl Try.isAgg36 (hk104'.cell rfl)) fun a115 h115 => ?_; clear h114
    have hO119 := MvO.gr hO100 hg92 (fun k e => by cases e)
    have hO120 := MvO.gr hO119 hg106 (fun k e => by cases e; exact ho99)
    have ho118 := MvO.ofS hO120
    have hO122 := LObj.gr hO77 hg92 (fun k e => by cases e)
    have hO123 := LObj.gr hO122 hg106 (fun k e => by cases e; exact ho101)
    have ho121 := LObj.ofS hO123
    have hr124 := row_kept_at hr107 hg106 (ha96)
    have hB125 := fbU_new hB81 hg92
    have hB126 := fbU_at hB125 hg106 (fun hlt => absurd hlt (by omega))
    have hk127 := Blk.butS hf45 hx78.but hn52
    have hk128 := hk127.kept hg92 (by simp)
    have hk129 := hk128.kept hg106 (by simp; omega)
    refine pw h115 rfl (op_call (args := #[pt m 0, .int .u64 ((atE L z).ts), ev75]) (R := fun res xw => ∃ S' : Nat → Prop, res = .int .i64 (mvE ((fdI (f, la, ce) L (mxI i 0) z).2.1) ((atE L z).ts) ((atE L z).opl)) ∧ MvO S' xw m (mvF ((fdI (f, la, ce) L (mxI i 0) z).1) ((fdI (f, la, ce) L (mxI i 0) z).2.1) ((atE L z).ts) ((atE L z).opl)) (mvLa ((fdI (f, la, ce) L (mxI i 0) z).2.1) ((atE L z).ts) ((atE L z).opl)) (mvCe ((fdI (f, la, ce) L (mxI i 0) z).2.1) ((atE L z).ts) ((fdI (f, la, ce) L (mxI i 0) z).2.2) ((atE L z).opl)) ((n + r) + 1) ∧ Grew DA S' w103 xw) rfl rfl rfl (by kernel_rfl) (by kernel_rfl) (Try.call43 _ _) (mvPut w103 ((atE L z).ts) ev75 ((atE L z).opl) hO120 (row_sl hr124 opE_len) (fun _ => (offR_row ho74 hr124 (Nat.le_refl _))) (by omega) (by omega) (by omega)) (by rintro e x ⟨S', h0, h⟩; exact ⟨_, h0, S', rfl, h⟩)) ?_; clear h115
    rintro _ w117 a116 ⟨S130, rfl, hO131, hx132⟩ h116
    have hB133 := fbU_foot hB126 hx132.but (fun i hi hq => by rcases hinB i hq with k | k; (first | exact k | exact .inl k | exact .inr k); omega)
    have hz134 := hB133.size
    have hz135 := hx132.but.size
    have hin136 : ∀ k, S130 k → (D k) ∨ w.heap.size ≤ k := fun k hk => by rcases hx132.sub k hk with j | j; exact hinB k j; exact .inr (by omega)
    refine pl_nil ?_
    refine co_blockN ?_
    refine co_then ?_
    refine co_reg ?_
    refine pk0 (v := .int .i64 z) h116 rfl fun a137 h137 => ?_; clear h116
    refine pk (v := .int .i64 (z + 1)) h137 rfl (rn_arith rfl rfl rfl rfl rfl rfl (IntWalk.i64_in _ (by omega))) fun a138 h138 => ?_; clear h137
    refine pk0 (v := .int .i64 (z + 1)) h138 rfl fun a139 h139 => ?_; clear h138
    refine pl_nil ?_
    refine co_then ?_
    refine ⟨((L.length - (z + 1)).toNat), by omega, ?_⟩
    have hi9 := hin84
    have hj9 := hin136
    have hp9 := (ap_symm (Grew.ap hx132 (ap_symm (ap_symm (ap_symm (Grew.ap hx78 (ap_symm (ap_symm hapA)) (MvO.ofS hf47))))) (LObj.ofS hO123)))
    have hk140 := Blk.butS hk129 hx132.but hn54
    have hO141 := LObj.butA hO123 hx132.but (ap_symm (ap_symm (Grew.ap hx78 (ap_symm (ap_symm hapA)) (MvO.ofS hf47))))
    exact ⟨(z + 1), r + 1, S76, S130, h139.sub ⟨rfl, rfl, rfl, rfl, rfl, trivial⟩, rfl, by omega, by omega, by exact hi9, by exact hj9, by exact hp9, hk140, hO141, (by rw [fdI_at (by omega) (by omega) (by omega)]; exact hO131), hB133⟩
end Go.Proofs.Ytkjnhghniopnoaa

/- catenalaw16: what comes in; few, SamePairs, awake. Conditions: none. -/
namespace Go.Proofs.Ytkjnhghniopnoaa
open Go.RowKit Go.PlainAid
set_option linter.unusedVariables false
set_option linter.unusedSimpArgs false


structure MActT where
  c : Int
  ts : Int
  v : Value
  l : List OpT
  k : ByteArray
  to : ByteArray
  n : Int
instance : Inhabited MActT := ⟨⟨0, 0, .slice none 0 0, [], ⟨#[]⟩, ⟨#[]⟩, 0⟩⟩
structure MActOk (w : World) (a : MActT) : Prop where
  ops : SliceOf opE 3 w a.v a.l
  t0 : 0 ≤ a.ts
  t1 : a.ts < 18446744073709551616
  n0 : (Lit.int .i64 a.n).wf = true
section
variable {H : Type} {enc : TypeId × Value → H} {w : World} {base : Nat} {spare : Nat → Bool} {held : Bool}
open Go.ChangeShapes Go.WideShapes Go.Deep
end
def Few (l : List MActT) (n : Nat) : Prop := ∀ a ∈ l.take n, a.l.length ≤ 20
instance (l : List MActT) (n : Nat) : Decidable (Few l n) := by unfold Few; infer_instance
theorem Few.step {l : List MActT} {i : Nat} {y : MActT} (h : Few l i) (hy : l[i]? = some y) (h2 : y.l.length ≤ 20) : Few l (i + 1) := by
  unfold Few at h ⊢
  rw [takeO_at hy]
  intro a ha
  rw [List.mem_append, List.mem_singleton] at ha
  rcases ha with ha | rfl; exact h a ha; exact h2
theorem Few.not {l : List MActT} {i : Nat} {y : MActT} (hy : l[i]? = some y) (hi : i < 40) (h2 : y.l.length > 20) : ¬ Few l 40 := fun h => by
  have := h y (List.mem_of_getElem? (i := i) (by rw [List.getElem?_take, if_pos hi]; exact hy)); omega
theorem Few.all {l : List MActT} {i : Nat} (h : Few l i) (hi : l.length ≤ i ∨ 40 ≤ i) : Few l 40 := by
  rcases hi with hi | hi
  · intro a ha; exact h a (by rw [List.take_of_length_le hi]; exact List.mem_of_mem_take ha)
  · intro a ha
    obtain ⟨j, hj⟩ := List.getElem?_of_mem ha
    have hl := (List.getElem?_eq_some_iff.1 hj).1
    rw [List.length_take] at hl
    rw [List.getElem?_take, if_pos (by omega)] at hj
    exact h a (List.mem_of_getElem? (i := j) (by rw [List.getElem?_take, if_pos (by omega)]; exact hj))
theorem Few.at {l : List MActT} {i : Nat} {y : MActT} (h : Few l 40) (hy : l[i]? = some y) (hi : i < 40) : y.l.length ≤ 20 := h y (List.mem_of_getElem? (i := i) (by rw [List.getElem?_take, if_pos hi]; exact hy))

def eqP (x y : PairT) : Bool := x.1.toList == y.1.toList && x.2.toList == y.2.toList
theorem eq_pair (a b d e : ByteArray) (w : World) : (binOp .eql 101 (.agg #[.string a, .string b]) (.agg #[.string d, .string e])).run Try.prog w = .ok (.bool (a.toList == d.toList && b.toList == e.toList)) w := by
  have u := Try.underlying9
  have hS : Try.prog.underlying 101 = some (.struct (Try.prog.fieldsOf 101)) := by kernel_rfl
  have hp : Try.prog.stoodInHeld 101 = false := by kernel_rfl
  have hf : (Try.prog.fieldsOf 101).toList.map (fun f => (f.offset, f.type)) = [(0, 9), (1, 9)] := by kernel_rfl
  rw [run_eql_struct, show (10000 : Nat) = 9999 + 1 from rfl, run_equalIn_agg w 9999 101 _ _ hS hp]
  simp only [Program.fieldsOf, Try.underlying101]
  go_simp
  by_cases h1 : a.toList = d.toList <;> by_cases h2 : b.toList = e.toList <;> simp [h1, h2]
def sameP : List PairT → List PairT → Bool
  | [], [] => true
  | x :: a, y :: b => eqP x y && sameP a b
  | _, _ => false
theorem sameP_len : ∀ {a b : List PairT}, a.length ≠ b.length → false = sameP a b
  | [], [], h => absurd rfl h
  | [], _ :: _, _ => rfl
  | _ :: _, [], _ => rfl
  | x :: a, y :: b, h => by
    show false = (eqP x y && sameP a b)
    rw [← sameP_len (a := a) (b := b) (fun e => h (by simp [e]))]; simp
theorem dropP {α : Type} {l : List α} {i : Nat} {y : α} (h : l[i]? = some y) : l.drop i = y :: l.drop (i + 1) := by
  obtain ⟨hi, rfl⟩ := List.getElem?_eq_some_iff.1 h
  exact List.drop_eq_getElem_cons hi
theorem sameP_step {a b : List PairT} {i : Nat} {x y : PairT} {z : Bool} (h : sameP (a.drop i) (b.drop i) = z) (hx : a[i]? = some x) (hy : b[i]? = some y) (he : eqP x y = true) : sameP (a.drop (i + 1)) (b.drop (i + 1)) = z := by
  rw [dropP hx, dropP hy] at h; unfold sameP at h; rwa [he, Bool.true_and] at h
theorem sameP_no {a b : List PairT} {i : Nat} {x y : PairT} {z : Bool} (h : sameP (a.drop i) (b.drop i) = z) (hx : a[i]? = some x) (hy : b[i]? = some y) (he : eqP x y = false) : false = z := by
  rw [dropP hx, dropP hy] at h; unfold sameP at h; rwa [he, Bool.false_and] at h
theorem sameP_end {a b : List PairT} {i : Nat} {z : Bool} (h : sameP (a.drop i) (b.drop i) = z) (hl : a.length = b.length) (hi : a.length ≤ i) : true = z := by
  rw [List.drop_eq_nil_of_le hi, List.drop_eq_nil_of_le (by omega)] at h; exact h
theorem eqP_of {x y : PairT} {b : Bool} (h : (!(x.1.toList == y.1.toList && x.2.toList == y.2.toList)) = b) : eqP x y = !b := by unfold eqP; rw [← h]; simp
theorem sameP_refl : ∀ a : List PairT, sameP a a = true
  | [] => rfl
  | x :: a => by show (eqP x x && sameP a a) = true; rw [sameP_refl a]; unfold eqP; simp


set_option maxRecDepth 100000 in
theorem rsamePairs_any (v : Value) (l : List PairT) (v2 : Value) (l2 : List PairT) (w : World) (hs : SliceOf pairE 2 w v l) (hs2 : SliceOf pairE 2 w v2 l2) :
    Calls Try.prog 20 #[v, v2] w fun e w' => e = .returned (.bool (sameP l l2)) ∧ Below w.heap.size w w' := by
 have hB0 := Below.refl w.heap.size w
 have hl_hs := sl_len hs
 have hl_hs2 := sl_len hs2
 refine co_enter (n := 32) Try.func20 rfl rfl rfl [(0, v), (1, v2)] rfl (fun a h0 => ?_)
 refine co_seq ?_
 refine co_reg ?_
 refine pk0 (v := .bool false) h0 rfl fun a1 h1 => ?_; clear h0
 refine pl_nil ?_
 refine co_then ?_
 refine co_seq ?_
 refine co_seq ?_
 refine co_reg ?_
 refine pk0 (v := v) h1 rfl fun a2 h2 => ?_; clear h1
 refine pk (v := .int .i64 ((l.length : Nat) : Int)) h2 rfl (rn_len rfl rfl Try.underlying58 hs) fun a3 h3 => ?_; clear h2
 refine pk0 (v := v2) h3 rfl fun a4 h4 => ?_; clear h3
 refine pk (v := .int .i64 ((l2.length : Nat) : Int)) h4 rfl (rn_len rfl rfl Try.underlying58 hs2) fun a5 h5 => ?_; clear h4
 refine pk0 (v := .bool (((l.length : Nat) : Int) != ((l2.length : Nat) : Int))) h5 rfl fun a6 h6 => ?_; clear h5
 refine pl_nil ?_
 refine co_then ?_
 cases hc7 : (((l.length : Nat) : Int) != ((l2.length : Nat) : Int))
 ·
  rw [hc7] at h6
  have hp8 : ¬ (((l.length : Nat) : Int) ≠ ((l2.length : Nat) : Int)) := by first | simpa using hc7 | simpa [and_assoc] using hc7
  clear hc7
  refine co_false h6 rfl ?_
  refine wp_skip ?_
  refine co_then ?_
  refine co_seq ?_
  refine co_seq ?_
  refine co_reg ?_
  refine pk0 (v := .int .i64 0) h6 rfl fun a9 h9 => ?_; clear h6
  refine pl_nil ?_
  refine co_then ?_
  refine wp_block ?_
  have h10 : Slots 32 [(0, v), (1, v2), (4, .bool false), (5, .int .i64 0)] _ := h9.sub ⟨rfl, rfl, rfl, rfl, trivial⟩; clear h9
  refine co_loop (fun mm a x => ∃ (i : Nat), Slots 32 [(0, v), (1, v2), (4, .bool false), (5, .int .i64 ((i : Nat) : Int))] a ∧ mm = l.length - i ∧ (i ≤ l.length) ∧ (l.length = l2.length) ∧ (sameP (l.drop i) (l2.drop i) = sameP l l2) ∧ Below w.heap.size w x) (l.length - 0) ?_ ?_
  · exact ⟨0, h10.sub ⟨rfl, rfl, rfl, (slot_eq rfl (congrArg (Value.int .i64) (by first | rfl | omega))), trivial⟩, rfl, by omega, by omega, by first | rfl | exact hL', hB0⟩
  · rintro k11 a12 w13 ⟨i, h12, rfl, hi14, hi15, hi16, hB17⟩
    have hz18 := hB17.size
    have hL : sameP (l.drop i) (l2.drop i) = sameP l l2 := by assumption
    refine co_seq ?_
    refine co_seq ?_
    refine co_reg ?_
    refine pk0 (v := .int .i64 ((i : Nat) : Int)) h12 rfl fun a19 h19 => ?_; clear h12
    refine pk0 (v := v) h19 rfl fun a20 h20 => ?_; clear h19
    refine pk (v := .int .i64 ((l.length : Nat) : Int)) h20 rfl (rn_len rfl rfl Try.underlying58 (hs.below hB17)) fun a21 h21 => ?_; clear h20
    refine pk0 (v := .bool (decide (((i : Nat) : Int) < ((l.length : Nat) : Int)))) h21 rfl fun a22 h22 => ?_; clear h21
    refine pk0 (v := .bool (decide (((i : Nat) : Int) < ((l.length : Nat) : Int)))) h22 rfl fun a23 h23 => ?_; clear h22
    cases hc24 : (decide (((i : Nat) : Int) < ((l.length : Nat) : Int)))
    ·
     rw [hc24] at h23
     have hp25 : ¬ (((i : Nat) : Int) < ((l.length : Nat) : Int)) := of_decide_eq_false hc24
     clear hc24
     refine psk h23 rfl fun a26 h26 => ?_; clear h23
     refine psk h26 rfl fun a27 h27 => ?_; clear h26
     refine psk h27 rfl fun a28 h28 => ?_; clear h27
     refine psk h28 rfl fun a29 h29 => ?_; clear h28
     refine pk0 (v := .bool false) h29 rfl fun a30 h30 => ?_; clear h29
     refine pl_nil ?_
     refine co_then ?_
     refine co_false h30 rfl ?_
     refine wp_exit ?_
     refine co_thenX ?_
     refine co_thenX ?_
     refine co_blockX ?_
     refine co_then ?_
     refine co_seq ?_
     refine co_reg ?_
     refine pk0 (v := .bool true) h30 rfl fun a31 h31 => ?_; clear h30
     refine pl_nil ?_
     refine co_then ?_
     refine wp_ret ?_
     refine co_ret1 h31 rfl rfl ?_
     exact ⟨ret_bool (sameP_end (i := i) hL (by omega) (by omega)), hB17⟩
    ·
     rw [hc24] at h23
     have hp32 : ((i : Nat) : Int) < ((l.length : Nat) : Int) := of_decide_eq_true hc24
     clear hc24
     refine pk0 (v := .int .i64 ((i : Nat) : Int)) h23 rfl fun a33 h33 => ?_; clear h23
     refine pk0 (v := v2) h33 rfl fun a34 h34 => ?_; clear h33
     refine pk (v := .int .i64 ((l2.length : Nat) : Int)) h34 rfl (rn_len rfl rfl Try.underlying58 (hs2.below hB17)) fun a35 h35 => ?_; clear h34
     refine pk0 (v := .bool (decide (((i : Nat) : Int) < ((l2.length : Nat) : Int)))) h35 rfl fun a36 h36 => ?_; clear h35
     refine pk0 (v := .bool (decide (((i : Nat) : Int) < ((l2.length : Nat) : Int)))) h36 rfl fun a37 h37 => ?_; clear h36
     refine pl_nil ?_
     refine co_then ?_
     have hc38 : (decide (((i : Nat) : Int) < ((l2.length : Nat) : Int))) = true := decide_eq_true (by omega)
     rw [hc38] at h37; clear hc38
     refine co_true h37 rfl ?_
     refine wp_skip ?_
     refine co_then ?_
     refine co_seq ?_
     refine wp_block ?_
     refine co_seq ?_
     refine dr_eq (by kernel_rfl) (fun w39 hg40 => ?_)
     have hz41 := hg40.size
     refine dk0 0 (v := v) h37 rfl rfl rfl fun a42 h42 => ?_; clear h37
     refine dk0 1 (v := .int .i64 ((i : Nat) : Int)) h42 rfl rfl rfl fun a43 h43 => ?_; clear h42
     have hB45 := hb_new hB17 hg40
     obtain ⟨y44, hy44⟩ : ∃ z, l[i]? = some z := ⟨_, List.getElem?_eq_getElem (by first | omega | (simp; done) | (simp; omega))⟩
     refine dk 2 (v := pt (blkOf v) (offOf v + i * 2)) h43 rfl rfl rfl (fun x hx => by subst hx; exact (rn_index rfl rfl rfl Try.underlying58 Try.sizeOf101 (hs.below hB45) (by omega) (by first | omega | (simp; done) | (simp; omega)))) fun a46 h46 => ?_; clear h43
     refine dk 3 (v := .agg #[.string y44.1, .string y44.2]) h46 rfl rfl rfl (fun x hx => by subst hx; exact (rn_loadN rfl rfl Try.underlying101 rfl (by kernel_rfl) (sl_at (hs.below hB45) hy44))) fun a47 h47 => ?_; clear h46
     refine dk0 4 (v := v2) h47 rfl rfl rfl fun a48 h48 => ?_; clear h47
     refine dk0 5 (v := .int .i64 ((i : Nat) : Int)) h48 rfl rfl rfl fun a49 h49 => ?_; clear h48
     obtain ⟨y50, hy50⟩ : ∃ z, l2[i]? = some z := ⟨_, List.getElem?_eq_getElem (by first | omega | (simp; done) | (simp; omega))⟩
     refine dk 6 (v := pt (blkOf v2) (offOf v2 + i * 2)) h49 rfl rfl rfl (fun x hx => by subst hx; exact (rn_index rfl rfl rfl Try.underlying58 Try.sizeOf101 (hs2.below hB45) (by omega) (by first | omega | (simp; done) | (simp; omega)))) fun a51 h51 => ?_; clear h49
     refine dk 7 (v := .agg #[.string y50.1, .string y50.2]) h51 rfl rfl rfl (fun x hx => by subst hx; exact (rn_loadN rfl rfl Try.underlying101 rfl (by kernel_rfl) (sl_at (hs2.below hB45) hy50))) fun a52 h52 => ?_; clear h51
     refine dk 8 (v := .bool (!(y44.1.toList == y50.1.toList && y44.2.toList == y50.2.toList))) h52 rfl rfl rfl (fun x hx => by subst hx; exact (rn_neS rfl rfl rfl Try.eqGuardType101 (eq_pair _ _ _ _ _))) fun a53 h53 => ?_; clear h52
     refine dr_done (by kernel_rfl) ?_
     refine co_then ?_
     cases hc54 : (!(y44.1.toList == y50.1.toList && y44.2.toList == y50.2.toList))
     ·
      rw [hc54] at h53
      refine co_false h53 rfl ?_
      refine wp_skip ?_
      refine co_blockN ?_
      refine co_then ?_
      refine co_reg ?_
      refine pk0 (v := .int .i64 ((i : Nat) : Int)) h53 rfl fun a55 h55 => ?_; clear h53
      refine pk (v := .int .i64 ((i + 1 : Nat) : Int)) h55 rfl (rn_arith' rfl rfl rfl rfl rfl rfl (IntWalk.i64_in _ (by omega)) (by omega)) fun a56 h56 => ?_; clear h55
      refine pk0 (v := .int .i64 ((i + 1 : Nat) : Int)) h56 rfl fun a57 h57 => ?_; clear h56
      refine pl_nil ?_
      refine co_then ?_
      refine ⟨(l.length - (i + 1)), by omega, ?_⟩
      have hL' := sameP_step (i := i) hL hy44 hy50 (eqP_of (b := false) (by assumption))
      exact ⟨i + 1, h57.sub ⟨rfl, rfl, rfl, rfl, trivial⟩, rfl, by omega, by omega, by first | rfl | exact hL', hB45⟩
     ·
      rw [hc54] at h53
      refine co_true h53 rfl ?_
      refine co_seq ?_
      refine co_reg ?_
      refine pk0 (v := .bool false) h53 rfl fun a58 h58 => ?_; clear h53
      refine pl_nil ?_
      refine co_then ?_
      refine wp_ret ?_
      refine co_blockR ?_
      refine co_thenR ?_
      refine co_thenR ?_
      refine co_blockR ?_
      refine co_thenR ?_
      refine co_ret1 h58 rfl rfl ?_
      exact ⟨ret_bool (sameP_no (i := i) hL hy44 hy50 (eqP_of (b := true) (by assumption))), hB45⟩
 ·
  rw [hc7] at h6
  have hp59 : ((l.length : Nat) : Int) ≠ ((l2.length : Nat) : Int) := by first | simpa using hc7 | simpa [and_assoc] using hc7
  clear hc7
  refine co_true h6 rfl ?_
  refine co_seq ?_
  refine co_reg ?_
  refine pk0 (v := .bool false) h6 rfl fun a60 h60 => ?_; clear h6
  refine pl_nil ?_
  refine co_then ?_
  refine wp_ret ?_
  refine co_thenR ?_
  refine co_ret1 h60 rfl rfl ?_
  exact ⟨ret_bool (sameP_len (by omega)), hB0⟩

theorem MActOk.below {w x : World} {a : MActT} (h : MActOk w a) (hb : Below w.heap.size w x) : MActOk x a := ⟨h.ops.below hb, h.t0, h.t1, h.n0⟩
end Go.Proofs.Ytkjnhghniopnoaa

/- Keys: the least text above a text, of at most b bytes, and that nothing lies between. Plain lists. Conditions: none. -/
namespace Go.Proofs.Ytkjnhghniopnoaa

/-- x ≤ y, as a Bool: what Go's own comparison gives. -/
def le (x y : List UInt8) : Bool := Op.bytesLess x y || x == y
end Go.Proofs.Ytkjnhghniopnoaa

/- A block of bytes of the call's own, and its text. Conditions: none. -/
namespace Go.Proofs.Ytkjnhghniopnoaa
open Go.RowKit

/-- Block b begins with the bytes f 0 .. f (n - 1); they may be written. -/
def Bytes (w : World) (b n : Nat) (f : Nat → UInt8) : Prop := ∀ j, j < n → w.cell? ⟨b, j, none⟩ = some (.int .u8 (f j).toNat) ∧ w.frozen? ⟨b, j, none⟩ = false
theorem Bytes.set {w : World} {b n : Nat} {f : Nat → UInt8} (h : Bytes w b n f) {i : Nat} (hi : i < n) (y : UInt8) : Bytes (w.setCell ⟨b, i, none⟩ (.int .u8 y.toNat)) b n (fun j => if j = i then y else f j) := by
  intro j hj
  refine ⟨?_, by rw [World.frozen?_setCell]; exact (h j hj).2⟩
  by_cases e : j = i
  · subst e
    rw [World.cell?_setCell_same _ _ _ (h j hi).1]
    show _ = some (Value.int .u8 ((if j = j then y else f j : UInt8).toNat : Nat))
    rw [if_pos rfl]
  · rw [World.cell?_setCell_other _ _ _ _ (by first | (simp; done) | (simp; omega))]
    show _ = some (Value.int .u8 ((if j = i then y else f j : UInt8).toNat : Nat))
    rw [if_neg e]; exact (h j hj).1
theorem Bytes.congr {w : World} {b n : Nat} {f g : Nat → UInt8} (h : Bytes w b n f) (hg : ∀ j, j < n → f j = g j) : Bytes w b n g := fun j hj => by rw [← hg j hj]; exact h j hj
theorem Bytes.below {w w' : World} {b n : Nat} {f : Nat → UInt8} (h : Bytes w b n f) (hb : Below w.heap.size w w') : Bytes w' b n f := fun j hj =>
  ⟨cell_below hb (h j hj).1, by rw [hb.frozen (World.block_lt_of_cell? w _ (h j hj).1)]; exact (h j hj).2⟩
theorem strOfNums_bytes (l : List UInt8) : strOfNums (l.map fun b => ((b.toNat : Nat) : Int)) = ⟨l.toArray⟩ := by
  apply ByteArray.ext
  apply Array.toList_inj.1
  rw [strOfNums_data, List.map_map]
  show _ = l
  have : ((fun n : Int => UInt8.ofNat n.toNat) ∘ fun b : UInt8 => ((b.toNat : Nat) : Int)) = id := by
    funext b
    simp
  rw [this, List.map_id]
/-- The text of such a block. -/
theorem Bytes.text {w : World} {b n cap : Nat} {f : Nat → UInt8} (h : Bytes w b n f) {P : Program} {src dst e : TypeId} (hs : P.underlying src = some (.slice e)) (he : P.underlying e = some (.int .u8)) (hd : P.underlying dst = some .string) :
    (convert src dst (.slice (some ⟨b, 0, none⟩) n cap)).run P w = .ok (.string ⟨((List.range n).map f).toArray⟩) w := by
  rw [← strOfNums_bytes]
  refine run_convert_bytes_arg w src e hs he b 0 n cap _ (by simp) (fun i hi => ?_) dst hd
  rw [Nat.zero_add, (h i hi).1]
  simp [List.getD, hi]
end Go.Proofs.Ytkjnhghniopnoaa

/- Pages of a scan. Conditions: none. -/
namespace Go.Proofs.Ytkjnhghniopnoaa
open Go.RowKit Go.PlainAid
set_option linter.unusedVariables false
set_option linter.unusedSimpArgs false


theorem klt_data {a b : ByteArray} : klt a b = Op.bytesLess a.data.toList b.data.toList := by unfold klt; rw [Go.ByteArray.toList_eq, Go.ByteArray.toList_eq]
section
variable {f : Fv} {t la : Int} {K : List ByteArray} {F T : ByteArray} {n : Nat} {y : PairT}
theorem ks_0 : ksOf (fun _ => []) = [] := ksOf_eq ⟨List.Pairwise.nil, by simp⟩
theorem hits_len : (hitsF f t F T).length ≤ (ksOf f).length := by
  unfold hitsF hits; rw [List.length_map]; exact Nat.le_trans (List.length_filter_le _ _) (List.length_filter_le _ _)
theorem scan_whole {H : List PairT} (h : H.length ≤ 1000) : scanL H 1000 = H := List.take_of_length_le (by simpa using h)
end
section
variable {P : Program} {n : Nat} {m : List (Nat × Value)} {o : Oper} {w : World}
end
end Go.Proofs.Ytkjnhghniopnoaa

/- catenaref05.Set, without keys.Set. Conditions: the texts read as l, of at most 1000. -/
namespace Go.Proofs.Ytkjnhghniopnoaa
open Go.RowKit Go.PlainAid Go.WideMaps Go.Maps Go.Sort Go.Shelf

theorem own_lowK {w : World} {B B' : Nat} {e : TypeId} {k : Nat} {v : Value} {n : Nat} {xs : List Value} (h : w.ownsRow B e k v n xs) (hb : B' ≤ B) : w.ownsRow B' e k v n xs := by
  obtain ⟨h1, h2⟩ := h
  refine ⟨h1, ?_⟩
  rcases h2 with h2 | ⟨g, cap, cur, hv, hg, r⟩
  · exact Or.inl h2
  · exact Or.inr ⟨g, cap, cur, hv, Nat.le_trans hb hg, r⟩
theorem info_strK : (Try.prog.info? 9).map (fun i => (i.zero, i.size, i.bytes)) = some (some (.string ⟨#[]⟩), 1, 16) := by kernel_rfl
theorem bl_lt (x y : List UInt8) : Op.bytesLess x y = decide (x < y) := bytesLess_eq x y
/-- A text's bytes. -/
abbrev kb (s : ByteArray) : List UInt8 := s.data.toList
/-- ys rises, and has just what l has. -/
def SetOf (ys l : List ByteArray) : Prop := (ys.map kb).Pairwise (· < ·) ∧ ∀ x, x ∈ ys.map kb ↔ x ∈ l.map kb
def mkB (x : List UInt8) : ByteArray := ⟨x.toArray⟩
theorem mk_kb (s : ByteArray) : mkB (kb s) = s := by apply ByteArray.ext; simp [kb, mkB]
theorem kb_inj {a b : ByteArray} (h : kb a = kb b) : a = b := by rw [← mk_kb a, h, mk_kb]
theorem map_mk_kb : ∀ l : List ByteArray, (l.map kb).map mkB = l
  | [] => rfl
  | x :: l => by rw [List.map_cons, List.map_cons, mk_kb, map_mk_kb l]
theorem map_kb_inj {a b : List ByteArray} (h : a.map kb = b.map kb) : a = b := by rw [← map_mk_kb a, h, map_mk_kb]
theorem rising_eq : ∀ {a b : List (List UInt8)}, a.Pairwise (· < ·) → b.Pairwise (· < ·) → (∀ x, x ∈ a ↔ x ∈ b) → a = b
  | [], [], _, _, _ => rfl
  | [], y :: b, _, _, h => absurd ((h y).2 (by simp)) (by simp)
  | x :: a, [], _, _, h => absurd ((h x).1 (by simp)) (by simp)
  | x :: a, y :: b, ha, hb, h => by
    rw [List.pairwise_cons] at ha hb
    have hxy : x = y := by
      have h1 := (h x).1 (by simp)
      have h2 := (h y).2 (by simp)
      rcases List.mem_cons.1 h1 with e | h1
      · exact e
      · rcases List.mem_cons.1 h2 with e | h2
        · exact e.symm
        · exact absurd (List.lt_trans (ha.1 y h2) (hb.1 x h1)) (List.lt_irrefl x)
    subst hxy
    rw [rising_eq ha.2 hb.2 (fun z => ?_)]
    have hz := h z
    simp only [List.mem_cons] at hz
    constructor
    · intro hm
      rcases hz.1 (.inr hm) with e | k
      · subst e; exact absurd (ha.1 z hm) (List.lt_irrefl z)
      · exact k
    · intro hm
      rcases hz.2 (.inr hm) with e | k
      · subst e; exact absurd (hb.1 z hm) (List.lt_irrefl z)
      · exact k
theorem SetOf.uniq {a b l : List ByteArray} (h : SetOf a l) (k : SetOf b l) : a = b := map_kb_inj (rising_eq h.1 k.1 (fun x => (h.2 x).trans (k.2 x).symm))
/-- What stands in a world stands behind allocations and draws: the list of steps. -/
theorem ins_rising {L : List (List UInt8)} {x : List UInt8} {k : Nat} (h : L.Pairwise (· < ·)) (h1 : ∀ y ∈ L.take k, y < x) (h2 : ∀ y ∈ L.drop k, x < y) : (L.take k ++ x :: L.drop k).Pairwise (· < ·) := by
  have h' := h
  rw [← List.take_append_drop k L, List.pairwise_append] at h'
  rw [List.pairwise_append, List.pairwise_cons]
  refine ⟨h'.1, ⟨h2, h'.2.1⟩, fun a ha b hb => ?_⟩
  rcases List.mem_cons.1 hb with rfl | hb
  · exact h1 a ha
  · exact h'.2.2 a ha b hb
theorem SetOf.ins {ys m : List ByteArray} {s : ByteArray} {k : Nat} (h : SetOf ys m) (hk : k ≤ ys.length) (h1 : ∀ j (_ : j < ys.length), j < k → kb ys[j] < kb s) (h2 : ∀ h : k < ys.length, kb s < kb ys[k]) : SetOf (ys.take k ++ [s] ++ ys.drop k) (m ++ [s]) := by
  have e : (ys.take k ++ [s] ++ ys.drop k).map kb = (ys.map kb).take k ++ kb s :: (ys.map kb).drop k := by simp [List.map_take, List.map_drop]
  refine ⟨?_, fun x => ?_⟩
  · rw [e]
    refine ins_rising h.1 (fun y hy => ?_) (fun y hy => ?_)
    · rw [← List.map_take] at hy
      obtain ⟨z, hz, rfl⟩ := List.mem_map.1 hy
      obtain ⟨j, hj, rfl⟩ := List.getElem_of_mem hz
      have hj' : j < k ∧ j < ys.length := by rw [List.length_take] at hj; omega
      rw [List.getElem_take]
      exact h1 j hj'.2 hj'.1
    · by_cases hkl : k < ys.length
      · have hp := h.1
        have hkl' : k < (ys.map kb).length := by simpa using hkl
        rw [← List.take_append_drop k (ys.map kb), List.pairwise_append] at hp
        have hp2 := hp.2.1
        rw [List.drop_eq_getElem_cons hkl'] at hp2 hy
        rw [List.pairwise_cons] at hp2
        have hx := h2 hkl
        rw [List.getElem_map] at hp2 hy
        rcases List.mem_cons.1 hy with rfl | hy
        · exact hx
        · exact List.lt_trans hx (hp2.1 y hy)
      · rw [List.drop_eq_nil_of_le (by simp; omega)] at hy; exact absurd hy (by simp)
  · have hm := h.2 x
    have hsplit : x ∈ ys.map kb ↔ x ∈ (ys.map kb).take k ∨ x ∈ (ys.map kb).drop k := by
      conv => lhs; rw [← List.take_append_drop k (ys.map kb)]
      exact List.mem_append
    rw [e, List.map_append, List.mem_append, List.mem_append, List.mem_cons, ← hm, hsplit]
    simp only [List.map_cons, List.map_nil, List.mem_singleton]
    constructor
    · rintro (h | h | h)
      · exact .inl (.inl h)
      · exact .inr h
      · exact .inl (.inr h)
    · rintro ((h | h) | h)
      · exact .inl h
      · exact .inr (.inr h)
      · exact .inr (.inl h)
theorem SetOf.skip {ys m : List ByteArray} {s : ByteArray} (h : SetOf ys m) (hs : s ∈ ys) : SetOf ys (m ++ [s]) := by
  refine ⟨h.1, fun x => ?_⟩
  rw [h.2 x, List.map_append, List.mem_append]
  constructor
  · exact .inl
  · rintro (k | k)
    · exact k
    · obtain rfl : x = kb s := by simpa using k
      exact (h.2 _).1 (List.mem_map_of_mem hs)
theorem strE_oneL (l : List ByteArray) : ∀ y ∈ l, (strE y).length = 1 ∧ ∀ u ∈ strE y, u.oneCell' = true := by
  intro y _; exact ⟨rfl, fun u hu => by simp [strE] at hu; subst hu; rfl⟩
theorem lt_facts {q s : ByteArray} {b : Bool} (h : decide (kb q < kb s) = b) : Op.bytesLess q.data.toList s.data.toList = b ∧ Op.bytesLess q.toList s.toList = b := by
  refine ⟨by rw [bl_lt]; exact h, by rw [Go.ByteArray.toList_eq, Go.ByteArray.toList_eq, bl_lt]; exact h⟩
theorem eq_facts {q s : ByteArray} (h : q ≠ s) : (q.data.toList == s.data.toList) = false ∧ (q.toList == s.toList) = false := by
  have e : q.data.toList ≠ s.data.toList := fun e => h (kb_inj e)
  refine ⟨beq_eq_false_iff_ne.2 e, ?_⟩
  rw [Go.ByteArray.toList_eq, Go.ByteArray.toList_eq]; exact beq_eq_false_iff_ne.2 e

set_option maxRecDepth 100000 in
set_option maxHeartbeats 3200000 in
theorem rset_any (v : Value) (l : List ByteArray) (w : World) (hs : SliceOf strE 1 w v l) (hl : l.length ≤ 1000) :
    Calls Try.prog 74 #[v] w fun e w' => ∃ u ys, e = .returned u ∧ (SetOf ys l ∧ ys.length ≤ l.length) ∧ w'.ownsRow w.heap.size 9 1 u ys.length (ys.flatMap strE) ∧ Below w.heap.size w w' := by
  obtain ⟨i0, hi, hz0, hz1, hz2⟩ := info_parts info_strK
  have HS := Lib.hid hs
  obtain ⟨ao, cap, rfl, hcap, hcm, _, _⟩ := hs
  go_enter Try.func74, Try.ntmps74
  go_wp2
  go_loopg [3, 4] (l.length + 1) (fun g s3 s4 wr => ∃ (i : Nat) (ys : List ByteArray), s4 = .int .i64 i ∧ i ≤ l.length ∧ l.length + 1 ≤ i + g ∧ ys.length ≤ i ∧ Hid (wr.ownsRow w.heap.size 9 1 s3 ys.length (ys.flatMap strE)) ∧ Hid (SetOf ys (l.take i)) ∧ Hid (Below w.heap.size w wr))
  case atStart => exact ⟨0, [], rfl, by omega, by omega, by simp, Lib.hid (World.ownsRow_nil _ _ _ _), Lib.hid ⟨by simp, by simp⟩, Lib.hid (Below.refl _ _)⟩
  case round =>
    obtain ⟨i, ys, rfl, hi4, hg, hyl, HO, HSET, HB⟩ := hrel
    by_cases hlt : i < l.length
    · have HSL := Lib.hid (SliceOf.own (enc := strE) HO.out (fun _ _ => rfl))
      obtain ⟨ao2, cap2, rfl, hc2, hm2, hnil2, _⟩ := HSL.out
      have HT : Hid (l.take (i + 1) = l.take i ++ [l[i]]) := Lib.hid (by rw [List.take_add_one, List.getElem?_eq_getElem hlt]; rfl)
      obtain ⟨s, hsv⟩ : ∃ s, s = l[i] := ⟨_, rfl⟩
      have HSV := Lib.hid hsv
      rw [← hsv] at HT
      have hdl : decide ((i : Int) < (l.length : Int)) = true := decide_eq_true (by omega)
      obtain ⟨n2, hn2⟩ : ∃ n2, n2 = ys.length := ⟨_, rfl⟩
      have HN2 := Lib.hid hn2
      rw [← hn2] at HO HSL hc2 hyl hnil2 ⊢
      obtain ⟨gO, hgO⟩ : ∃ gO, gO = gk := ⟨_, rfl⟩
      rw [← hgO] at hg
      clear hsv hn2
      go_wp2
      go_loopg [5] (n2 + 1) (fun g s5 wr' => ∃ k : Nat, s5 = .int .i64 k ∧ k ≤ n2 ∧ n2 + 1 ≤ k + g ∧ Hid (∀ j (_ : j < ys.length), j < k → kb ys[j] < kb s) ∧ Hid (wr'.ownsRow w.heap.size 9 1 (.slice ao2 n2 cap2) n2 (ys.flatMap strE)) ∧ Hid (Below w.heap.size w wr'))
      case atStart => exact ⟨0, rfl, by omega, by omega, Lib.hid (fun j _ h => absurd h (by omega)), HO, HB⟩
      case round =>
        obtain ⟨k, rfl, hk, hg2, HLT, HO2, HB2⟩ := hrel
        have HSL2 := Lib.hid (SliceOf.own (enc := strE) (l := ys) (by rw [← HN2.out]; exact HO2.out) (fun _ _ => rfl))
        have HLS := Lib.hid (HS.out.below HB2.out)
        obtain ⟨b, off, rfl, hrl⟩ := (show ∃ b off, ao = some ⟨b, off, none⟩ ∧ wr.cell? ⟨b, off + i, none⟩ = some (.string s) by
          obtain ⟨a', c', e1, _, _, _, hx⟩ := HLS.out
          obtain ⟨b, off, e2, hr⟩ := hx i hlt
          simp only [Value.slice.injEq] at e1
          refine ⟨b, off, by rw [e1.1, e2], ?_⟩
          rw [HSV.out]; simpa using hr 0 _ rfl)
        by_cases hkl : k < n2
        · have hklI : decide ((k : Int) < (n2 : Int)) = true := decide_eq_true (by omega)
          have hkl' : k < ys.length := by have := HN2.out; omega
          obtain ⟨b2, off2, rfl, hrk⟩ := (show ∃ b2 off2, ao2 = some ⟨b2, off2, none⟩ ∧ wr.cell? ⟨b2, off2 + k, none⟩ = some (.string ys[k]) by
            obtain ⟨a', c', e1, _, _, _, hx⟩ := HSL2.out
            obtain ⟨b, off, e2, hr⟩ := hx k hkl'
            simp only [Value.slice.injEq] at e1
            exact ⟨b, off, by rw [e1.1, e2], by simpa using hr 0 _ rfl⟩)
          obtain ⟨q, hqv⟩ : ∃ q, q = ys[k] := ⟨_, rfl⟩
          have HQ := Lib.hid hqv
          rw [← hqv] at hrk
          have HCL := Lib.hid hrl; have HCK := Lib.hid hrk
          clear hqv
          cases hlq : decide (kb q < kb s) with
          | true =>
            obtain ⟨f1, f2⟩ := lt_facts hlq
            have HLT2 : Hid (∀ j (_ : j < ys.length), j < k + 1 → kb ys[j] < kb s) := Lib.hid (fun j hj hjk => by
              by_cases e : j = k
              · subst e; rw [← HQ.out]; exact of_decide_eq_true hlq
              · exact HLT.out j hj (by omega))
            clear hlq
            go_wp2_with fail
            go_quiet (fail)
            obtain ⟨z, hz⟩ : ∃ z, z = nq := ⟨_, rfl⟩
            rw [← hz]; clear hz
            go_wp2
            go_roundg (gk - 1)
            case rel => exact ⟨k + 1, by go_num, by omega, by omega, HLT2, Lib.hid (row_below HO2.out (below_draws (Below.refl _ _) z)), Lib.hid (below_draws HB2.out z)⟩
            case measure => omega
          | false =>
            obtain ⟨f1, f2⟩ := lt_facts hlq
            by_cases hqs : q = s
            · subst hqs
              have HSET2 := Lib.hid (HSET.out.skip (s := q) (by rw [HQ.out]; exact List.getElem_mem _))
              rw [← HT.out] at HSET2
              clear hlq
              go_wp2_with fail
              go_quiet (fail)
              obtain ⟨z, hz⟩ : ∃ z, z = nq := ⟨_, rfl⟩
              rw [← hz]; clear hz
              have c1 : (wr.drewN z).cell? ⟨b2, off2 + k, none⟩ = some (.string q) := HCK.out
              have c2 : (wr.drewN z).cell? ⟨b, off + i, none⟩ = some (.string q) := HCL.out
              go_wp2_with fail
              go_quiet (fail)
              obtain ⟨z2, hz2⟩ : ∃ z, z = nq := ⟨_, rfl⟩
              rw [← hz2]; clear hz2
              go_wp2
              go_roundg (gO - 1)
              case rel => exact ⟨i + 1, ys, by go_num, by omega, by omega, by have := HN2.out; omega, Lib.hid (by have h5 := row_below HO2.out (below_draws (Below.refl wr.heap.size wr) (z + z2)); rw [HN2.out] at h5 ⊢; exact h5), HSET2, Lib.hid (below_draws HB2.out (z + z2))⟩
              case measure => omega
            · have HIN := Lib.hid (HSET.out.ins (s := s) (k := k) (by omega) HLT.out (fun h => by
                rcases List.le_iff_lt_or_eq.1 (List.not_lt.1 (of_decide_eq_false hlq)) with h5 | h5
                · rw [← HQ.out]; exact h5
                · exact absurd (kb_inj h5).symm hqs))
              rw [← HT.out] at HIN
              obtain ⟨f4, f5⟩ := eq_facts hqs
              clear hlq hqs
              go_wp2_with fail
              go_quiet (fail)
              obtain ⟨z, hz⟩ : ∃ z, z = nq := ⟨_, rfl⟩
              rw [← hz]; clear hz
              have c1 : (wr.drewN z).cell? ⟨b2, off2 + k, none⟩ = some (.string q) := HCK.out
              have c2 : (wr.drewN z).cell? ⟨b, off + i, none⟩ = some (.string s) := HCL.out
              go_wp2_with fail
              go_quiet (fail)
              obtain ⟨z2, hz2⟩ : ∃ z, z = nq := ⟨_, rfl⟩
              rw [← hz2]; clear hz2
              obtain ⟨W8, hW8⟩ : ∃ W8, W8 = (wr.drewN z).drewN z2 := ⟨_, rfl⟩
              have HB8 : Hid (Below w.heap.size w W8) := Lib.hid (by rw [hW8]; exact below_draws (below_draws HB2.out z) z2)
              have HO8 : Hid (W8.ownsRow w.heap.size 9 1 (.slice (some ⟨b2, off2, none⟩) n2 cap2) n2 (ys.flatMap strE)) := Lib.hid (by rw [hW8]; exact row_below HO2.out (below_draws (below_draws (Below.refl wr.heap.size wr) z) z2))
              have HSL8 := Lib.hid (SliceOf.own (enc := strE) (l := ys) (by rw [← HN2.out]; exact HO8.out) (fun _ _ => rfl))
              have HC8 : Hid (W8.cell? ⟨b, off + i, none⟩ = some (.string s)) := Lib.hid (by rw [hW8]; exact c2)
              rw [← hW8]
              clear hW8 c2
              have hu1 := run_upto (P := Try.prog) (T := 103) (sz := 1) Try.underlying103 Try.sizeOf9 (some ⟨b2, off2, none⟩) n2 cap2 k (by omega)
              have hu2 := run_from (P := Try.prog) (T := 103) (sz := 1) Try.underlying103 Try.sizeOf9 (some ⟨b2, off2, none⟩) n2 cap2 k (by omega)
              obtain ⟨v1, hv1⟩ : ∃ v1, v1 = sliced (some ⟨b2, off2, none⟩) 0 k cap2 1 := ⟨_, rfl⟩
              obtain ⟨v2, hv2⟩ : ∃ v2, v2 = sliced (some ⟨b2, off2, none⟩) k n2 cap2 1 := ⟨_, rfl⟩
              rw [← hv1] at hu1
              rw [← hv2] at hu2
              have HV1 : Hid (SliceOf strE 1 W8 v1 (ys.take k)) := Lib.hid (by rw [hv1]; simpa using HSL8.out.sliced 0 k (by omega) (by have := HN2.out; omega))
              have HV2 : Hid (SliceOf strE 1 W8 v2 (ys.drop k)) := Lib.hid (by rw [hv2]; have h5 := HSL8.out.sliced k n2 (by omega) (by have := HN2.out; omega); rw [show ys.take n2 = ys from by rw [HN2.out]; exact List.take_length] at h5; exact h5)
              have hsz8 := HB8.out.size
              have c8 := HC8.out
              have hb8 : b < W8.heap.size := World.block_lt_of_cell? W8 _ c8
              have HLT6 : Hid ((ys.take k).length = k) := Lib.hid (by have := HN2.out; rw [List.length_take]; omega)
              have HLD6 : Hid ((ys.drop k).length = n2 - k) := Lib.hid (by have := HN2.out; rw [List.length_drop]; omega)
              clear hv1 hv2
              go_wp2_with fail
              go_region_law (first
                | (refine step_append_src rfl (.tmp 45) (.tmp 48) 103 rfl W8.heap.size 9 i0 (.string ⟨#[]⟩) 1 16 Try.underlying103 hi hz0 hz1 hz2 rfl (by decide) _ 0 [] rfl (by first | exact row_empty _ _ _ _ _ (by simp) (by omega) | exact (row_empty _ _ _ _ _ (by simp) (by omega)).alloc _) strE (ys.take k) _ rfl (HV1.out.below (by (repeat (first | exact Below.refl _ _ | refine Below.alloc ?_ (by first | omega | (simp; done) | (simp; omega)) _ | refine Below.drew ?_ | refine below_draws ?_ _)))) (strE_oneL _) (by rw [List.length_take]; unfold maxLen; omega) (by rw [List.length_take]; omega) (by simp <;> omega) ?_; intro v5 w5 hown5 hgr5; have hbx : Below W8.heap.size W8 w5 := Below.grown (by (repeat (first | exact Below.refl _ _ | refine Below.alloc ?_ (by first | omega | (simp; done) | (simp; omega)) _ | refine Below.drew ?_ | refine below_draws ?_ _))) hgr5 (by simp <;> omega) (fun k hk => by cases hk; simp <;> omega); have c5 := cell_below hbx HC8.out; have ho5 := Lib.hid (show w5.ownsRow W8.heap.size 9 1 v5 k ((ys.take k).flatMap strE) by have h7 := hown5; rw [Nat.zero_add, HLT6.out] at h7; exact h7); clear hown5)
                | (refine step_append_lies _ rfl (.tmp 49) (.tmp 54) 103 rfl W8.heap.size 9 i0 (.string ⟨#[]⟩) 1 16 Try.underlying103 hi hz0 hz1 hz2 rfl (by decide) _ k _ rfl (by first | exact ho5.out | exact ho5.out.alloc _) _ 1 1 [.string s] rfl rfl (by first | exact World.news_of_block (alloc_at _ _) | exact fun j u hj => hgr5.cell (World.news_of_block (alloc_at' _ _ _ (by simp)) j u hj) (by rw [Addr.add_lit]; intro h8; injection h8 with h9; first | omega | (simp at h9; done) | (simp at h9; omega)) | exact fun j u hj => hgr5.cell (cell_below (Below.alloc (Below.refl _ _) (Nat.le_refl _) _) (World.news_of_block (alloc_at' _ _ _ (by simp)) j u hj)) (by rw [Addr.add_lit]; intro h8; injection h8 with h9; first | omega | (simp at h9; done) | (simp at h9; omega))) (by simp [Value.oneCell']) (by omega) (by unfold maxLen; omega) (by omega) (by have := hbx.size; simp <;> omega) _ rfl ?_; intro g6 cp6 w6 hown6 hgr6 hg6 hg6s))
              all_goals (
                have hob := Lib.hid (own_block ho5.out)
                have hsz5 := hbx.size
                have hbx6 := Lib.hid (Below.grown (B := W8.heap.size) (a := W8) (by first | exact hbx | exact hbx.drew | exact (hbx.alloc (by first | omega | (simp; omega)) _) | exact (hbx.alloc (by first | omega | (simp; omega)) _).drew | exact hbx.drew.drew | exact (hbx.drew.alloc (by first | omega | (simp; omega)) _)) hgr6 (by first | omega | (simp; omega)) (fun k hk => hob.out k hk))
                have HO6 := Lib.hid hown6
                have hsz6 := hbx6.out.size
                clear hown6 hgr6 hgr5 hu1 hsz5 c5 hbx
                go_wp2_with (at_builtin; go_loud (refine wpList_append_src rfl (.tmp 56) (.tmp 59) 103 rfl W8.heap.size 9 i0 (.string ⟨#[]⟩) 1 16 Try.underlying103 hi hz0 hz1 hz2 rfl (by decide) _ _ _ rfl HO6.out strE (ys.drop k) _ rfl (HV2.out.below hbx6.out) (strE_oneL _) (by rw [HLD6.out]; unfold maxLen; omega) (by rw [HLD6.out]; omega) (by omega) ?_); intro v7 w7 hown7 hgr7)
                have HO7 : Hid (w7.ownsRow w.heap.size 9 1 v7 (ys.take k ++ [s] ++ ys.drop k).length ((ys.take k ++ [s] ++ ys.drop k).flatMap strE)) := Lib.hid (own_lowK (by rw [List.flatMap_append, List.flatMap_append, List.length_append, List.length_append, HLT6.out, List.length_singleton]; exact hown7) hsz8)
                have HB7 := Lib.hid ((HB8.out.trans (hbx6.out.mono hsz8)).grown hgr7 (by omega) (fun j hj => by have := (HO6.out.lt j hj).1; omega))
                have HL7 : Hid ((ys.take k ++ [s] ++ ys.drop k).length = n2 + 1) := Lib.hid (by rw [List.length_append, List.length_append, HLT6.out, HLD6.out, List.length_singleton]; omega)
                clear hown7 hgr7
                go_wp2
                go_roundg (gO - 1)
                case rel => exact ⟨i + 1, ys.take k ++ [s] ++ ys.drop k, by go_num, by omega, by omega, by rw [HL7.out]; omega, HO7, HIN, HB7⟩
                case measure => omega)
        · obtain rfl : k = n2 := by omega
          have hklI : decide ((k : Int) < (k : Int)) = false := decide_eq_false (by omega)
          have HIN := Lib.hid (HSET.out.ins (s := s) (k := k) (by have := HN2.out; omega) HLT.out (fun h => by have := HN2.out; omega))
          rw [← HT.out] at HIN
          have HCL := Lib.hid hrl
          go_wp2_with fail
          go_quiet (fail)
          obtain ⟨z, hz⟩ : ∃ z, z = nq := ⟨_, rfl⟩
          rw [← hz]; clear hz
          have c2 : (wr.drewN z).cell? ⟨b, off + i, none⟩ = some (.string s) := HCL.out
          go_wp2_with fail
          go_quiet (fail)
          obtain ⟨z2, hz2⟩ : ∃ z, z = nq := ⟨_, rfl⟩
          rw [← hz2]; clear hz2
          obtain ⟨W8, hW8⟩ : ∃ W8, W8 = (wr.drewN z).drewN z2 := ⟨_, rfl⟩
          have HB8 : Hid (Below w.heap.size w W8) := Lib.hid (by rw [hW8]; exact below_draws (below_draws HB2.out z) z2)
          have HO8 : Hid (W8.ownsRow w.heap.size 9 1 (.slice ao2 k cap2) k (ys.flatMap strE)) := Lib.hid (by rw [hW8]; exact row_below HO2.out (below_draws (below_draws (Below.refl wr.heap.size wr) z) z2))
          have HSL8 := Lib.hid (SliceOf.own (enc := strE) (l := ys) (by rw [← HN2.out]; exact HO8.out) (fun _ _ => rfl))
          have HC8 : Hid (W8.cell? ⟨b, off + i, none⟩ = some (.string s)) := Lib.hid (by rw [hW8]; exact c2)
          rw [← hW8]
          clear hW8 c2
          have hu1 := run_upto (P := Try.prog) (T := 103) (sz := 1) Try.underlying103 Try.sizeOf9 ao2 k cap2 k (by omega)
          have hu2 := run_from (P := Try.prog) (T := 103) (sz := 1) Try.underlying103 Try.sizeOf9 ao2 k cap2 k (by omega)
          obtain ⟨v1, hv1⟩ : ∃ v1, v1 = sliced ao2 0 k cap2 1 := ⟨_, rfl⟩
          obtain ⟨v2, hv2⟩ : ∃ v2, v2 = sliced ao2 k k cap2 1 := ⟨_, rfl⟩
          rw [← hv1] at hu1
          rw [← hv2] at hu2
          have HV1 : Hid (SliceOf strE 1 W8 v1 (ys.take k)) := Lib.hid (by rw [hv1]; simpa using HSL8.out.sliced 0 k (by omega) (by have := HN2.out; omega))
          have HV2 : Hid (SliceOf strE 1 W8 v2 (ys.drop k)) := Lib.hid (by rw [hv2]; have h5 := HSL8.out.sliced k k (by omega) (by have := HN2.out; omega); rw [show ys.take k = ys from by rw [HN2.out]; exact List.take_length] at h5; exact h5)
          have hsz8 := HB8.out.size
          have c8 := HC8.out
          have hb8 : b < W8.heap.size := World.block_lt_of_cell? W8 _ c8
          have HLT6 : Hid ((ys.take k).length = k) := Lib.hid (by have := HN2.out; rw [List.length_take]; omega)
          have HLD6 : Hid ((ys.drop k).length = k - k) := Lib.hid (by have := HN2.out; rw [List.length_drop]; omega)
          clear hv1 hv2
          go_wp2_with fail
          go_region_law (first
            | (refine step_append_src rfl (.tmp 45) (.tmp 48) 103 rfl W8.heap.size 9 i0 (.string ⟨#[]⟩) 1 16 Try.underlying103 hi hz0 hz1 hz2 rfl (by decide) _ 0 [] rfl (by first | exact row_empty _ _ _ _ _ (by simp) (by omega) | exact (row_empty _ _ _ _ _ (by simp) (by omega)).alloc _) strE (ys.take k) _ rfl (HV1.out.below (by (repeat (first | exact Below.refl _ _ | refine Below.alloc ?_ (by first | omega | (simp; done) | (simp; omega)) _ | refine Below.drew ?_ | refine below_draws ?_ _)))) (strE_oneL _) (by rw [List.length_take]; unfold maxLen; omega) (by rw [List.length_take]; omega) (by simp <;> omega) ?_; intro v5 w5 hown5 hgr5; have hbx : Below W8.heap.size W8 w5 := Below.grown (by (repeat (first | exact Below.refl _ _ | refine Below.alloc ?_ (by first | omega | (simp; done) | (simp; omega)) _ | refine Below.drew ?_ | refine below_draws ?_ _))) hgr5 (by simp <;> omega) (fun k hk => by cases hk; simp <;> omega); have c5 := cell_below hbx HC8.out; have ho5 := Lib.hid (show w5.ownsRow W8.heap.size 9 1 v5 k ((ys.take k).flatMap strE) by have h7 := hown5; rw [Nat.zero_add, HLT6.out] at h7; exact h7); clear hown5)
            | (refine step_append_lies _ rfl (.tmp 49) (.tmp 54) 103 rfl W8.heap.size 9 i0 (.string ⟨#[]⟩) 1 16 Try.underlying103 hi hz0 hz1 hz2 rfl (by decide) _ k _ rfl (by first | exact ho5.out | exact ho5.out.alloc _) _ 1 1 [.string s] rfl rfl (by first | exact World.news_of_block (alloc_at _ _) | exact fun j u hj => hgr5.cell (World.news_of_block (alloc_at' _ _ _ (by simp)) j u hj) (by rw [Addr.add_lit]; intro h8; injection h8 with h9; first | omega | (simp at h9; done) | (simp at h9; omega)) | exact fun j u hj => hgr5.cell (cell_below (Below.alloc (Below.refl _ _) (Nat.le_refl _) _) (World.news_of_block (alloc_at' _ _ _ (by simp)) j u hj)) (by rw [Addr.add_lit]; intro h8; injection h8 with h9; first | omega | (simp at h9; done) | (simp at h9; omega))) (by simp [Value.oneCell']) (by omega) (by unfold maxLen; omega) (by omega) (by have := hbx.size; simp <;> omega) _ rfl ?_; intro g6 cp6 w6 hown6 hgr6 hg6 hg6s))
          all_goals (
            have hob := Lib.hid (own_block ho5.out)
            have hsz5 := hbx.size
            have hbx6 := Lib.hid (Below.grown (B := W8.heap.size) (a := W8) (by first | exact hbx | exact hbx.drew | exact (hbx.alloc (by first | omega | (simp; omega)) _) | exact (hbx.alloc (by first | omega | (simp; omega)) _).drew | exact hbx.drew.drew | exact (hbx.drew.alloc (by first | omega | (simp; omega)) _)) hgr6 (by first | omega | (simp; omega)) (fun k hk => hob.out k hk))
            have HO6 := Lib.hid hown6
            have hsz6 := hbx6.out.size
            clear hown6 hgr6 hgr5 hu1 hsz5 c5 hbx
            go_wp2_with (at_builtin; go_loud (refine wpList_append_src rfl (.tmp 56) (.tmp 59) 103 rfl W8.heap.size 9 i0 (.string ⟨#[]⟩) 1 16 Try.underlying103 hi hz0 hz1 hz2 rfl (by decide) _ _ _ rfl HO6.out strE (ys.drop k) _ rfl (HV2.out.below hbx6.out) (strE_oneL _) (by rw [HLD6.out]; unfold maxLen; omega) (by rw [HLD6.out]; omega) (by omega) ?_); intro v7 w7 hown7 hgr7)
            have HO7 : Hid (w7.ownsRow w.heap.size 9 1 v7 (ys.take k ++ [s] ++ ys.drop k).length ((ys.take k ++ [s] ++ ys.drop k).flatMap strE)) := Lib.hid (own_lowK (by rw [List.flatMap_append, List.flatMap_append, List.length_append, List.length_append, HLT6.out, List.length_singleton]; exact hown7) hsz8)
            have HB7 := Lib.hid ((HB8.out.trans (hbx6.out.mono hsz8)).grown hgr7 (by omega) (fun j hj => by have := (HO6.out.lt j hj).1; omega))
            have HL7 : Hid ((ys.take k ++ [s] ++ ys.drop k).length = k + 1) := Lib.hid (by rw [List.length_append, List.length_append, HLT6.out, HLD6.out, List.length_singleton]; omega)
            clear hown7 hgr7
            go_wp2
            go_roundg (gO - 1)
            case rel => exact ⟨i + 1, ys.take k ++ [s] ++ ys.drop k, by go_num, by omega, by omega, by rw [HL7.out]; omega, HO7, HIN, HB7⟩
            case measure => omega)
    · obtain rfl : i = l.length := by omega
      have hdl : decide ((l.length : Int) < (l.length : Int)) = false := decide_eq_false (by omega)
      rw [List.take_length] at HSET
      go_wp2
      go_ret
      exact ⟨_, ys, rfl, ⟨HSET.out, by omega⟩, HO.out, HB.out⟩
end Go.Proofs.Ytkjnhghniopnoaa

/- The document's own ops: Set, Norm, Over. Conditions: at most 1000 pairs and operations. -/
namespace Go.Proofs.Ytkjnhghniopnoaa
open Go.RowKit Go.PlainAid
set_option linter.unusedVariables false

open Go.Sort Go.Shelf Go.Lib

abbrev ValT := ByteArray × ByteArray
def valE (v : ValT) : List Value := [.string v.1, .string v.2]
abbrev kB (s : ByteArray) : List UInt8 := s.data.toList
def lastF (g : ByteArray → Option OpT) (o : OpT) : ByteArray → Option OpT := fun b => if b = o.1 then some o else g b
/-- The last operation of each key. -/
def lastG (l : List OpT) : ByteArray → Option OpT := l.foldl lastF (fun _ => none)
theorem lastG_snoc (l : List OpT) (o : OpT) : lastG (l ++ [o]) = lastF (lastG l) o := by unfold lastG; rw [List.foldl_append]; rfl
theorem snoc_ind {α : Type} {C : List α → Prop} (h0 : C []) (h1 : ∀ l a, C l → C (l ++ [a])) (l : List α) : C l := by
  have : ∀ r : List α, C r.reverse := fun r => by
    induction r with
    | nil => exact h0
    | cons a r ih => rw [List.reverse_cons]; exact h1 _ _ ih
  rw [← List.reverse_reverse l]; exact this _
theorem lastG_key (l : List OpT) : ∀ k v, lastG l k = some v → v.1 = k := by
  refine snoc_ind (C := fun l => ∀ k v, lastG l k = some v → v.1 = k) (fun k v h => by cases h) (fun l o ih k v h => ?_) l
  rw [lastG_snoc] at h
  unfold lastF at h
  by_cases e : k = o.1
  · rw [if_pos e] at h; cases h; exact e.symm
  · rw [if_neg e] at h; exact ih k v h
def pairF (g : ByteArray → Option ValT) (o : ValT) : ByteArray → Option ValT := fun b => if b = o.1 then some o else g b
def pairG (l : List ValT) : ByteArray → Option ValT := l.foldl pairF (fun _ => none)
theorem pairG_snoc (l : List ValT) (o : ValT) : pairG (l ++ [o]) = pairF (pairG l) o := by unfold pairG; rw [List.foldl_append]; rfl
def ovF (g : ByteArray → Option ValT) (o : OpT) : ByteArray → Option ValT := fun b => if b = o.1 then (if o.2.2 = true then none else some (o.1, o.2.1)) else g b
/-- What the pairs are behind the operations. -/
def ovG (l : List ValT) (m : List OpT) : ByteArray → Option ValT := m.foldl ovF (pairG l)
theorem ovG_snoc (l : List ValT) (m : List OpT) (o : OpT) : ovG l (m ++ [o]) = ovF (ovG l m) o := by unfold ovG; rw [List.foldl_append]; rfl
/-- ys rises by its keys and holds just what g has. -/
def SetG {V : Type} (key : V → ByteArray) (g : ByteArray → Option V) (ys : List V) : Prop := ys.Pairwise (fun a b => kB (key a) < kB (key b)) ∧ ∀ y, y ∈ ys ↔ ∃ k, g k = some y
theorem SetG.uniq {V : Type} {key : V → ByteArray} {g : ByteArray → Option V} : ∀ {a b : List V}, SetG key g a → SetG key g b → a = b := by
  intro a b ha hb
  have hab : ∀ y, y ∈ a ↔ y ∈ b := fun y => (ha.2 y).trans (hb.2 y).symm
  have key2 : ∀ (a b : List V), a.Pairwise (fun x y => kB (key x) < kB (key y)) → b.Pairwise (fun x y => kB (key x) < kB (key y)) → (∀ y, y ∈ a ↔ y ∈ b) → a = b := by
    intro a
    induction a with
    | nil =>
      intro b _ _ h
      cases b with
      | nil => rfl
      | cons y b => exact absurd ((h y).2 (by simp)) (by simp)
    | cons x a ih =>
      intro b h1 h2 h
      cases b with
      | nil => exact absurd ((h x).1 (by simp)) (by simp)
      | cons y b =>
        rw [List.pairwise_cons] at h1 h2
        have hxy : x = y := by
          rcases List.mem_cons.1 ((h x).1 (by simp)) with e | hx
          · exact e
          · rcases List.mem_cons.1 ((h y).2 (by simp)) with e | hy
            · exact e.symm
            · exact absurd (List.lt_trans (h1.1 y hy) (h2.1 x hx)) (List.lt_irrefl _)
        subst hxy
        rw [ih b h1.2 h2.2 (fun z => ?_)]
        have hz := h z
        simp only [List.mem_cons] at hz
        constructor
        · intro hm
          rcases hz.1 (.inr hm) with e | k
          · subst e; exact absurd (h1.1 z hm) (List.lt_irrefl _)
          · exact k
        · intro hm
          rcases hz.2 (.inr hm) with e | k
          · subst e; exact absurd (h2.1 z hm) (List.lt_irrefl _)
          · exact k
  exact key2 a b ha.1 hb.1 hab
theorem strE_lenP (y : ByteArray) : (strE y).length = 1 := rfl
theorem rkeysSet_any (v : Value) (l : List ByteArray) (w : World) (hs : SliceOf strE 1 w v l) (hl : l.length ≤ 1000) :
    Calls Try.prog 74 #[v] w fun e w' => ∃ (ys : List ByteArray) (u : Value), e = .returned (u) ∧ w'.ownsRow w.heap.size 9 1 u ys.length (ys.flatMap strE) ∧ SetOf ys l ∧ ys.length ≤ l.length ∧ Below w.heap.size w w' :=
  (rset_any v l w hs hl).mono (by rintro e x ⟨u, ys, rfl, ⟨h1, h2⟩, h3, h4⟩; exact ⟨ys, u, rfl, h3, h1, h2, h4⟩)
def zOp : OpT := (⟨#[]⟩, ⟨#[]⟩, false)
/-- The last operation with a key. -/
def lastD (l : List OpT) (k : ByteArray) : OpT := (lastG l k).getD zOp
theorem toList_inj {a b : ByteArray} (h : a.toList = b.toList) : a = b := by
  rw [Go.ByteArray.toList_eq, Go.ByteArray.toList_eq] at h
  exact kb_inj h
theorem lastD_yes {l : List OpT} {i : Nat} {z : OpT} {k : ByteArray} (h : l[i]? = some z) (hk : (z.1.toList == k.toList) = true) : lastD (l.take (i + 1)) k = z := by
  have e : z.1 = k := toList_inj (by simpa using hk)
  unfold lastD; rw [takeO_at h, lastG_snoc]; unfold lastF; rw [if_pos e.symm]; rfl
theorem lastD_no {l : List OpT} {i : Nat} {z : OpT} {k : ByteArray} (h : l[i]? = some z) (hk : (z.1.toList == k.toList) = false) : lastD (l.take (i + 1)) k = lastD (l.take i) k := by
  have e : ¬ k = z.1 := fun e => by subst e; simp at hk
  unfold lastD; rw [takeO_at h, lastG_snoc]; unfold lastF; rw [if_neg e]
theorem blk_zOp {w : World} {N : Nat} {T : TypeId} (l : List OpT) (k : ByteArray) (h : Blk w N T #[.string ⟨#[]⟩, .string ⟨#[]⟩, .bool false]) : Blk w N T #[.string (lastD (l.take 0) k).1, .string (lastD (l.take 0) k).2.1, .bool (lastD (l.take 0) k).2.2] := h
theorem lastG_mem (l : List OpT) : ∀ k, (∃ v, lastG l k = some v) ↔ k ∈ l.map (·.1) := by
  refine snoc_ind (C := fun l => ∀ k, (∃ v, lastG l k = some v) ↔ k ∈ l.map (·.1)) (fun k => by simp [lastG]) (fun l o ih k => ?_) l
  rw [lastG_snoc, List.map_append, List.mem_append]
  unfold lastF
  by_cases e : k = o.1
  · subst e; simp
  · rw [if_neg e, ih k]; simp [e]
theorem SetOf.mem {ys m : List ByteArray} (h : SetOf ys m) (x : ByteArray) : x ∈ ys ↔ x ∈ m := by
  have := h.2 (kb x)
  constructor
  · intro hx
    obtain ⟨y, hy, e⟩ := List.mem_map.1 (this.1 (List.mem_map_of_mem hx))
    rwa [← kb_inj e]
  · intro hx
    obtain ⟨y, hy, e⟩ := List.mem_map.1 (this.2 (List.mem_map_of_mem hx))
    rwa [← kb_inj e]
theorem norm_set {l : List OpT} {ys : List ByteArray} (h : SetOf ys (l.map (·.1))) : SetG (fun y : OpT => y.1) (lastG l) (ys.map (lastD l)) := by
  have hk : ∀ y ∈ ys, lastG l y = some (lastD l y) ∧ (lastD l y).1 = y := fun y hy => by
    obtain ⟨v, hv⟩ := (lastG_mem l y).2 ((h.mem y).1 hy)
    unfold lastD; rw [hv]; exact ⟨rfl, lastG_key l y v hv⟩
  refine ⟨?_, fun y => ?_⟩
  · have hp : ys.Pairwise fun a b => kB a < kB b := List.pairwise_map.1 h.1
    rw [List.pairwise_map]
    exact hp.imp_of_mem (fun {a b} ha hb hab => by show kB (lastD l a).1 < kB (lastD l b).1; rw [(hk a ha).2, (hk b hb).2]; exact hab)
  · rw [List.mem_map]
    constructor
    · rintro ⟨k, hk1, rfl⟩; exact ⟨k, (hk k hk1).1⟩
    · rintro ⟨k, hv⟩
      have hm : k ∈ ys := (h.mem k).2 ((lastG_mem l k).1 ⟨y, hv⟩)
      exact ⟨k, hm, by unfold lastD; rw [hv]; rfl⟩
theorem map_snoc {α β : Type} {f : α → β} {l : List α} {i : Nat} {y : α} (h : l[i]? = some y) : (l.take i).map f ++ [f y] = (l.take (i + 1)).map f := by rw [takeO_at h]; simp

set_option maxRecDepth 100000 in
theorem ropsNorm_any (v : Value) (l : List OpT) (w : World) (hs : SliceOf opE 3 w v l) (hlen : l.length ≤ 1000) :
    Calls Try.prog 46 #[v] w fun e w' => ∃ (ys : List OpT) (u : Value), e = .returned (u) ∧ w'.ownsRow w.heap.size 74 3 u ys.length (ys.flatMap opE) ∧ SetG (fun y : OpT => y.1) (lastG l) ys ∧ ys.length ≤ l.length ∧ Below w.heap.size w w' := by
 have hB0 := Below.refl w.heap.size w
 have hl_hs := sl_len hs
 refine co_enter (n := 57) Try.func46 rfl rfl rfl [(0, v)] rfl (fun a h0 => ?_)
 refine co_seq ?_
 refine co_reg ?_
 refine pk0 (v := .slice none 0 0) h0 rfl fun a1 h1 => ?_; clear h0
 refine pl_nil ?_
 refine co_then ?_
 refine co_seq ?_
 refine co_reg ?_
 refine pk0 (v := .slice none 0 0) h1 rfl fun a2 h2 => ?_; clear h1
 refine pl_nil ?_
 refine co_then ?_
 refine co_seq ?_
 refine co_seq ?_
 refine co_reg ?_
 refine pk0 (v := .int .i64 0) h2 rfl fun a3 h3 => ?_; clear h2
 refine pl_nil ?_
 refine co_then ?_
 refine wp_block ?_
 have h4 : Slots 57 [(0, v), (3, .slice none 0 0), (4, .int .i64 0)] _ := h3.sub ⟨rfl, rfl, rfl, trivial⟩; clear h3
 refine co_loop (fun mm a x => ∃ (i : Nat) (u : Value), Slots 57 [(0, v), (3, u), (4, .int .i64 ((i : Nat) : Int))] a ∧ mm = l.length - i ∧ (i ≤ l.length) ∧ x.ownsRow w.heap.size 9 1 u ((l.take i).map (·.1)).length (((l.take i).map (·.1)).flatMap strE) ∧ Below w.heap.size w x) (l.length - 0) ?_ ?_
 · exact ⟨0, (.slice none 0 0), h4.sub ⟨rfl, rfl, (slot_eq rfl (congrArg (Value.int .i64) (by first | rfl | omega))), trivial⟩, rfl, by omega, (row_nilL _ _ _ _ _), hB0⟩
 · rintro k5 a6 w7 ⟨i, u, h6, rfl, hi8, hf9, hB10⟩
   have hz11 := hB10.size
   have hst : (l.take i).length ≤ i := List.length_take_le _ _; have hst2 : ((l.take i).map (·.1)).length ≤ i := by rw [List.length_map]; exact hst
   refine co_seq ?_
   refine co_seq ?_
   refine co_reg ?_
   refine pk0 (v := .int .i64 ((i : Nat) : Int)) h6 rfl fun a12 h12 => ?_; clear h6
   refine pk0 (v := v) h12 rfl fun a13 h13 => ?_; clear h12
   refine pk (v := .int .i64 ((l.length : Nat) : Int)) h13 rfl (rn_len rfl rfl Try.underlying36 (hs.below hB10)) fun a14 h14 => ?_; clear h13
   refine pk0 (v := .bool (decide (((i : Nat) : Int) < ((l.length : Nat) : Int)))) h14 rfl fun a15 h15 => ?_; clear h14
   refine pl_nil ?_
   refine co_then ?_
   cases hc16 : (decide (((i : Nat) : Int) < ((l.length : Nat) : Int)))
   ·
    rw [hc16] at h15
    have hp17 : ¬ (((i : Nat) : Int) < ((l.length : Nat) : Int)) := of_decide_eq_false hc16
    clear hc16
    refine co_false h15 rfl ?_
    refine wp_exit ?_
    refine co_thenX ?_
    refine co_thenX ?_
    refine co_blockX ?_
    refine co_then ?_
    refine co_seq ?_
    refine co_reg ?_
    refine pk0 (v := u) h15 rfl fun a18 h18 => ?_; clear h15
    refine pw h18 rfl (op_call (args := #[u]) (R := fun res xw => ∃ ys : List ByteArray, ∃ u : Value, res = u ∧ xw.ownsRow w7.heap.size 9 1 u ys.length (ys.flatMap strE) ∧ SetOf ys ((l.take i).map (·.1)) ∧ ys.length ≤ ((l.take i).map (·.1)).length ∧ Below w7.heap.size w7 xw) rfl rfl rfl (by kernel_rfl) (by kernel_rfl) (Try.call74 _ _) (rkeysSet_any u ((l.take i).map (·.1)) w7 (row_sl hf9 strE_lenP) (by rw [List.length_map, List.length_take]; omega)) (by rintro e x ⟨ys, u, rfl, hq23, hq24, hq25, hb26⟩; exact ⟨_, rfl, ⟨ys, u, rfl, hq23, hq24, hq25, hb26⟩⟩)) ?_; clear h18
    rintro u22 w20 a19 ⟨ys21, _, rfl, hq23, hq24, hq25, hb26⟩ h19
    have hz27 := hb26.size
    have hl28 := sl_len (row_sl hq23 strE_lenP)
    refine pk0 (v := u22) h19 rfl fun a29 h29 => ?_; clear h19
    refine pl_nil ?_
    refine co_then ?_
    refine co_seq ?_
    refine co_reg ?_
    refine pk0 (v := .slice none 0 0) h29 rfl fun a30 h30 => ?_; clear h29
    refine pl_nil ?_
    refine co_then ?_
    refine co_seq ?_
    refine co_seq ?_
    refine co_reg ?_
    refine pk0 (v := .int .i64 0) h30 rfl fun a31 h31 => ?_; clear h30
    refine pl_nil ?_
    refine co_then ?_
    refine wp_block ?_
    have hall : l.take i = l := List.take_of_length_le (by omega)
    have hset : SetOf ys21 (l.map (·.1)) := by have := hq24; rwa [hall] at this
    have hysl : ys21.length ≤ l.length := by have h := (by assumption : ys21.length ≤ ((l.take i).map (·.1)).length); rw [List.length_map, hall] at h; exact h
    have h32 : Slots 57 [(0, v), (3, u22), (5, .slice none 0 0), (6, .int .i64 0)] _ := h31.sub ⟨rfl, rfl, rfl, rfl, trivial⟩; clear h31
    refine co_loop (fun mm a x => ∃ (j : Nat) (u2 : Value), Slots 57 [(0, v), (3, u22), (5, u2), (6, .int .i64 ((j : Nat) : Int))] a ∧ mm = ys21.length - j ∧ (j ≤ ys21.length) ∧ x.ownsRow w7.heap.size 9 1 u22 ys21.length (ys21.flatMap strE) ∧ x.ownsRow w.heap.size 74 3 u2 ((ys21.take j).map (lastD l)).length (((ys21.take j).map (lastD l)).flatMap opE) ∧ Below w.heap.size w x) (ys21.length - 0) ?_ ?_
    have hB33 := hb_call hB10 hb26
    · exact ⟨0, (.slice none 0 0), h32.sub ⟨rfl, rfl, rfl, (slot_eq rfl (congrArg (Value.int .i64) (by first | rfl | omega))), trivial⟩, rfl, by omega, hq23, (row_nilL _ _ _ _ _), hB33⟩
    · rintro k34 a35 w36 ⟨j, u2, h35, rfl, hi37, hf38, hf39, hB40⟩
      have hz41 := hB40.size
      have hst3 : ((ys21.take j).map (lastD l)).length ≤ j := by rw [List.length_map]; exact List.length_take_le _ _
      refine co_seq ?_
      refine co_seq ?_
      refine co_reg ?_
      refine pk0 (v := .int .i64 ((j : Nat) : Int)) h35 rfl fun a42 h42 => ?_; clear h35
      refine pk0 (v := u22) h42 rfl fun a43 h43 => ?_; clear h42
      refine pk (v := .int .i64 ((ys21.length : Nat) : Int)) h43 rfl (rn_lenOwn rfl rfl Try.underlying103 hf38) fun a44 h44 => ?_; clear h43
      refine pk0 (v := .bool (decide (((j : Nat) : Int) < ((ys21.length : Nat) : Int)))) h44 rfl fun a45 h45 => ?_; clear h44
      refine pl_nil ?_
      refine co_then ?_
      cases hc46 : (decide (((j : Nat) : Int) < ((ys21.length : Nat) : Int)))
      ·
       rw [hc46] at h45
       have hp47 : ¬ (((j : Nat) : Int) < ((ys21.length : Nat) : Int)) := of_decide_eq_false hc46
       clear hc46
       refine co_false h45 rfl ?_
       refine wp_exit ?_
       refine co_thenX ?_
       refine co_thenX ?_
       refine co_blockX ?_
       refine co_then ?_
       refine co_seq ?_
       refine co_reg ?_
       refine pk0 (v := u2) h45 rfl fun a48 h48 => ?_; clear h45
       refine pk0 (v := u2) h48 rfl fun a49 h49 => ?_; clear h48
       refine pl_nil ?_
       refine co_then ?_
       refine wp_ret ?_
       refine co_ret1 h49 rfl rfl ?_
       have hallj : ys21.take j = ys21 := List.take_of_length_le (by omega)
       exact ⟨_, _, rfl, (row_eq (row_lows hf39 (by omega)) (by rw [hallj])), norm_set hset, by rw [List.length_map]; omega, hB40⟩
      ·
       rw [hc46] at h45
       have hp50 : ((j : Nat) : Int) < ((ys21.length : Nat) : Int) := of_decide_eq_true hc46
       clear hc46
       refine co_true h45 rfl ?_
       refine wp_skip ?_
       refine co_then ?_
       refine co_seq ?_
       refine wp_block ?_
       refine co_seq ?_
       refine co_reg ?_
       refine pk0 (v := .agg #[.string (⟨#[]⟩), .string (⟨#[]⟩), .bool false]) h45 rfl fun a51 h51 => ?_; clear h45
       refine pw h51 rfl (op_new (v := fun N => pt N 0) (T := 74) (cs := #[.string (⟨#[]⟩), .string (⟨#[]⟩), .bool false]) (by kernel_rfl) (by kernel_rfl) (by kernel_rfl)) ?_; clear h51
       rintro _ w53 a52 ⟨N54, rfl, hN57, hz58, hk56, hg55⟩ h52
       have ha59 := row_fresh hf38 hN57
       have ha60 := row_fresh hf39 hN57
       have hz61 := hg55.size
       try dsimp only at h52
       refine pwD h52 rfl (op_storeN rfl rfl rfl (by kernel_rfl) (by kernel_rfl) hk56 rfl) ?_; clear h52
       rintro _ w63 a62 ⟨hk64, hz65, hg66⟩ h62
       have hk64' : Blk w63 N54 74 #[.string (⟨#[]⟩), .string (⟨#[]⟩), .bool false] := hk64; clear hk64
       have hz67 := hg66.size
       refine pl_nil ?_
       refine co_then ?_
       refine co_seq ?_
       refine co_seq ?_
       refine co_reg ?_
       refine pk0 (v := .int .i64 0) h62 rfl fun a68 h68 => ?_; clear h62
       refine pl_nil ?_
       refine co_then ?_
       refine wp_block ?_
       obtain ⟨y69, hy69⟩ : ∃ z, ys21[j]? = some z := ⟨_, List.getElem?_eq_getElem (by omega)⟩
       have h70 : Slots 57 [(0, v), (3, u22), (5, u2), (6, .int .i64 ((j : Nat) : Int)), (7, pt N54 0), (8, .int .i64 0)] _ := h68.sub ⟨rfl, rfl, rfl, rfl, rfl, rfl, trivial⟩; clear h68
       refine co_loop (fun mm a x => ∃ (k : Nat), Slots 57 [(0, v), (3, u22), (5, u2), (6, .int .i64 ((j : Nat) : Int)), (7, pt N54 0), (8, .int .i64 ((k : Nat) : Int))] a ∧ mm = l.length - k ∧ (k ≤ l.length) ∧ Blk x N54 74 #[.string ((lastD (l.take k) y69).1), .string ((lastD (l.take k) y69).2.1), .bool ((lastD (l.take k) y69).2.2)] ∧ x.ownsRow w7.heap.size 9 1 u22 ys21.length (ys21.flatMap strE) ∧ x.ownsRow w.heap.size 74 3 u2 (((ys21.take j).map (lastD l)).length) (((ys21.take j).map (lastD l)).flatMap opE) ∧ Below w.heap.size w x) (l.length - 0) ?_ ?_
       have hr71 := row_kept_new hf38 hg55
       have hr72 := row_kept_at hr71 hg66 (ha59)
       have hr73 := row_kept_new hf39 hg55
       have hr74 := row_kept_at hr73 hg66 (ha60)
       have hB75 := hb_new hB40 hg55
       have hB76 := hb_at hB75 hg66 (by omega)
       · exact ⟨0, h70.sub ⟨rfl, rfl, rfl, rfl, rfl, (slot_eq rfl (congrArg (Value.int .i64) (by first | rfl | omega))), trivial⟩, rfl, by omega, (blk_zOp l y69 hk64'), hr72, hr74, hB76⟩
       · rintro k77 a78 w79 ⟨k, h78, rfl, hi80, hf81, hf82, hf83, hB84⟩
         have hz85 := hB84.size
         have hl86 := hf81.lt
         refine co_seq ?_
         refine co_seq ?_
         refine co_reg ?_
         refine pk0 (v := .int .i64 ((k : Nat) : Int)) h78 rfl fun a87 h87 => ?_; clear h78
         refine pk0 (v := v) h87 rfl fun a88 h88 => ?_; clear h87
         refine pk (v := .int .i64 ((l.length : Nat) : Int)) h88 rfl (rn_len rfl rfl Try.underlying36 (hs.below hB84)) fun a89 h89 => ?_; clear h88
         refine pk0 (v := .bool (decide (((k : Nat) : Int) < ((l.length : Nat) : Int)))) h89 rfl fun a90 h90 => ?_; clear h89
         refine pl_nil ?_
         refine co_then ?_
         cases hc91 : (decide (((k : Nat) : Int) < ((l.length : Nat) : Int)))
         ·
          rw [hc91] at h90
          have hp92 : ¬ (((k : Nat) : Int) < ((l.length : Nat) : Int)) := of_decide_eq_false hc91
          clear hc91
          refine co_false h90 rfl ?_
          refine wp_exit ?_
          refine co_thenX ?_
          refine co_thenX ?_
          refine co_blockX ?_
          refine co_then ?_
          refine co_reg ?_
          refine pk0 (v := u2) h90 rfl fun a93 h93 => ?_; clear h90
          refine pk (v := .agg #[.string ((lastD (l.take k) y69).1), .string ((lastD (l.take k) y69).2.1), .bool ((lastD (l.take k) y69).2.2)]) h93 rfl (rn_loadN rfl rfl Try.underlying74 rfl (by kernel_rfl) hf81.all) fun a94 h94 => ?_; clear h93
          refine pw h94 rfl (op_new (v := fun N => .slice (some ⟨N, 0, none⟩) 1 1) (T := 74) (cs := #[.string ((lastD (l.take k) y69).1), .string ((lastD (l.take k) y69).2.1), .bool ((lastD (l.take k) y69).2.2)]) (by kernel_rfl) (by kernel_rfl) (by kernel_rfl)) ?_; clear h94
          rintro _ w96 a95 ⟨N97, rfl, hN100, hz101, hk99, hg98⟩ h95
          have ha102 := row_fresh hf82 hN100
          have ha103 := row_fresh hf83 hN100
          have hz104 := hg98.size
          try dsimp only at h95
          have hr110 := row_kept_new hf83 hg98
          refine pw h95 rfl (op_append rfl w.heap.size 74 (z := .agg #[.string (⟨#[]⟩), .string (⟨#[]⟩), .bool false]) (size := 3) (bytes := 40) Try.underlying36 (by kernel_rfl) rfl rfl rfl hr110 rfl hk99 rfl (by kernel_rfl) (by first | omega | (simp only [List.length_nil, List.length_append, List.length_cons, List.length_take, List.length_drop]; omega)) (by first | omega | (simp only [List.length_nil, List.length_append, List.length_cons, List.length_take, List.length_drop]; omega)) (by omega)) ?_; clear h95
          rintro v107 w106 a105 ⟨hr108, hg109⟩ h105
          have hr108' : w106.ownsRow w.heap.size 74 3 v107 (((ys21.take j).map (lastD l) ++ [((lastD (l.take k) y69).1, (lastD (l.take k) y69).2.1, ((lastD (l.take k) y69).2.2))]).length) (((ys21.take j).map (lastD l) ++ [((lastD (l.take k) y69).1, (lastD (l.take k) y69).2.1, ((lastD (l.take k) y69).2.2))]).flatMap opE) := row_push (y := ((lastD (l.take k) y69).1, (lastD (l.take k) y69).2.1, ((lastD (l.take k) y69).2.2))) hr108 rfl rfl; clear hr108
          have hz111 := hg109.size
          refine pk0 (v := v107) h105 rfl fun a112 h112 => ?_; clear h105
          refine pl_nil ?_
          refine co_blockN ?_
          refine co_then ?_
          refine co_reg ?_
          refine pk0 (v := .int .i64 ((j : Nat) : Int)) h112 rfl fun a113 h113 => ?_; clear h112
          refine pk (v := .int .i64 ((j + 1 : Nat) : Int)) h113 rfl (rn_arith' rfl rfl rfl rfl rfl rfl (IntWalk.i64_in _ (by omega)) (by omega)) fun a114 h114 => ?_; clear h113
          refine pk0 (v := .int .i64 ((j + 1 : Nat) : Int)) h114 rfl fun a115 h115 => ?_; clear h114
          refine pl_nil ?_
          refine co_then ?_
          refine ⟨(ys21.length - (j + 1)), by omega, ?_⟩
          have hr116 := row_kept_new hf82 hg98
          have hr117 := row_kept_row hr116 hr110 hg109 (by decide)
          have hB118 := hb_new hB84 hg98
          have hB119 := hb_row hB118 hr110 (by omega) hg109
          exact ⟨j + 1, v107, h115.sub ⟨rfl, rfl, rfl, rfl, trivial⟩, rfl, by omega, hr117, (row_eq hr108' (by first | rfl | (rw [List.take_of_length_le (show l.length ≤ k by omega)]; exact map_snoc hy69))), hB119⟩
         ·
          rw [hc91] at h90
          have hp120 : ((k : Nat) : Int) < ((l.length : Nat) : Int) := of_decide_eq_true hc91
          clear hc91
          refine co_true h90 rfl ?_
          refine wp_skip ?_
          refine co_then ?_
          refine co_seq ?_
          refine wp_block ?_
          refine co_seq ?_
          refine dr_eq (by kernel_rfl) (fun w121 hg122 => ?_)
          have hz123 := hg122.size
          refine dk0 0 (v := v) h90 rfl rfl rfl fun a124 h124 => ?_; clear h90
          refine dk0 1 (v := .int .i64 ((k : Nat) : Int)) h124 rfl rfl rfl fun a125 h125 => ?_; clear h124
          have hB127 := hb_new hB84 hg122
          obtain ⟨y126, hy126⟩ : ∃ z, l[k]? = some z := ⟨_, List.getElem?_eq_getElem (by first | omega | (simp; done) | (simp; omega))⟩
          refine dk 2 (v := pt (blkOf v) (offOf v + k * 3)) h125 rfl rfl rfl (fun x hx => by subst hx; exact (rn_index rfl rfl rfl Try.underlying36 Try.sizeOf74 (hs.below hB127) (by omega) (by first | omega | (simp; done) | (simp; omega)))) fun a128 h128 => ?_; clear h125
          refine dk0 3 (v := pt (blkOf v) (offOf v + k * 3)) h128 rfl rfl rfl fun a129 h129 => ?_; clear h128
          refine dk 4 (v := .string y126.1) h129 rfl rfl rfl (fun x hx => by subst hx; exact (rn_load1 rfl rfl Try.isAgg9 ((sl_at (hs.below hB127) hy126) 0 _ rfl))) fun a130 h130 => ?_; clear h129
          refine dk0 5 (v := u22) h130 rfl rfl rfl fun a131 h131 => ?_; clear h130
          refine dk0 6 (v := .int .i64 ((j : Nat) : Int)) h131 rfl rfl rfl fun a132 h132 => ?_; clear h131
          have hr133 := row_kept_new hf82 hg122
          refine dk 7 (v := pt (blkOf u22) (offOf u22 + j * 1)) h132 rfl rfl rfl (fun x hx => by subst hx; exact (rn_index rfl rfl rfl Try.underlying103 Try.sizeOf9 (row_sl hr133 strE_lenP) (by omega) (by first | omega | (simp; done) | (simp; omega)))) fun a134 h134 => ?_; clear h132
          refine dk 8 (v := .string y69) h134 rfl rfl rfl (fun x hx => by subst hx; exact (rn_load1 rfl rfl Try.isAgg9 ((sl_at (row_sl hr133 strE_lenP) hy69) 0 _ rfl))) fun a135 h135 => ?_; clear h134
          refine dk0 9 (v := .bool (y126.1.toList == y69.toList)) h135 rfl rfl rfl fun a136 h136 => ?_; clear h135
          refine dr_done (by kernel_rfl) ?_
          refine co_then ?_
          cases hc137 : (y126.1.toList == y69.toList)
          ·
           rw [hc137] at h136
           refine co_false h136 rfl ?_
           refine wp_skip ?_
           refine co_blockN ?_
           refine co_then ?_
           refine co_reg ?_
           refine pk0 (v := .int .i64 ((k : Nat) : Int)) h136 rfl fun a138 h138 => ?_; clear h136
           refine pk (v := .int .i64 ((k + 1 : Nat) : Int)) h138 rfl (rn_arith' rfl rfl rfl rfl rfl rfl (IntWalk.i64_in _ (by omega)) (by omega)) fun a139 h139 => ?_; clear h138
           refine pk0 (v := .int .i64 ((k + 1 : Nat) : Int)) h139 rfl fun a140 h140 => ?_; clear h139
           refine pl_nil ?_
           refine co_then ?_
           refine ⟨(l.length - (k + 1)), by omega, ?_⟩
           have hk141 := hf81.kept hg122 (by simp)
           have hr142 := row_kept_new hf83 hg122
           exact ⟨k + 1, h140.sub ⟨rfl, rfl, rfl, rfl, rfl, rfl, trivial⟩, rfl, by omega, (by first | (rw [lastD_yes hy126 (by assumption)]; exact hk141) | (rw [lastD_no hy126 (by assumption)]; exact hk141)), hr133, hr142, hB127⟩
          ·
           rw [hc137] at h136
           refine co_true h136 rfl ?_
           refine co_reg ?_
           refine pk0 (v := v) h136 rfl fun a143 h143 => ?_; clear h136
           refine pk0 (v := .int .i64 ((k : Nat) : Int)) h143 rfl fun a144 h144 => ?_; clear h143
           refine pk (v := pt (blkOf v) (offOf v + k * 3)) h144 rfl (rn_index rfl rfl rfl Try.underlying36 Try.sizeOf74 (hs.below hB127) (by omega) (by first | omega | (simp; done) | (simp; omega))) fun a145 h145 => ?_; clear h144
           refine pk (v := .agg #[.string y126.1, .string y126.2.1, .bool y126.2.2]) h145 rfl (rn_loadN rfl rfl Try.underlying74 rfl (by kernel_rfl) (sl_at (hs.below hB127) hy126)) fun a146 h146 => ?_; clear h145
           have hk152 := hf81.kept hg122 (by simp)
           refine pwD h146 rfl (op_storeN rfl rfl rfl (by kernel_rfl) (by kernel_rfl) hk152 rfl) ?_; clear h146
           rintro _ w148 a147 ⟨hk149, hz150, hg151⟩ h147
           have hk149' : Blk w148 N54 74 #[.string y126.1, .string y126.2.1, .bool y126.2.2] := hk149; clear hk149
           have hz153 := hg151.size
           refine pl_nil ?_
           refine co_blockN ?_
           refine co_then ?_
           refine co_reg ?_
           refine pk0 (v := .int .i64 ((k : Nat) : Int)) h147 rfl fun a154 h154 => ?_; clear h147
           refine pk (v := .int .i64 ((k + 1 : Nat) : Int)) h154 rfl (rn_arith' rfl rfl rfl rfl rfl rfl (IntWalk.i64_in _ (by omega)) (by omega)) fun a155 h155 => ?_; clear h154
           refine pk0 (v := .int .i64 ((k + 1 : Nat) : Int)) h155 rfl fun a156 h156 => ?_; clear h155
           refine pl_nil ?_
           refine co_then ?_
           refine ⟨(l.length - (k + 1)), by omega, ?_⟩
           have hr157 := row_kept_at hr133 hg151 (ha59)
           have hr158 := row_kept_new hf83 hg122
           have hr159 := row_kept_at hr158 hg151 (ha60)
           have hB160 := hb_at hB127 hg151 (by omega)
           exact ⟨k + 1, h156.sub ⟨rfl, rfl, rfl, rfl, rfl, rfl, trivial⟩, rfl, by omega, (by first | (rw [lastD_yes hy126 (by assumption)]; exact hk149') | (rw [lastD_no hy126 (by assumption)]; exact hk149')), hr157, hr159, hB160⟩
   ·
    rw [hc16] at h15
    have hp161 : ((i : Nat) : Int) < ((l.length : Nat) : Int) := of_decide_eq_true hc16
    clear hc16
    refine co_true h15 rfl ?_
    refine wp_skip ?_
    refine co_then ?_
    refine co_seq ?_
    refine wp_block ?_
    refine co_reg ?_
    refine pk0 (v := u) h15 rfl fun a162 h162 => ?_; clear h15
    refine pk0 (v := v) h162 rfl fun a163 h163 => ?_; clear h162
    refine pk0 (v := .int .i64 ((i : Nat) : Int)) h163 rfl fun a164 h164 => ?_; clear h163
    obtain ⟨y165, hy165⟩ : ∃ z, l[i]? = some z := ⟨_, List.getElem?_eq_getElem (by first | omega | (simp; done) | (simp; omega))⟩
    refine pk (v := pt (blkOf v) (offOf v + i * 3)) h164 rfl (rn_index rfl rfl rfl Try.underlying36 Try.sizeOf74 (hs.below hB10) (by omega) (by first | omega | (simp; done) | (simp; omega))) fun a166 h166 => ?_; clear h164
    refine pk0 (v := pt (blkOf v) (offOf v + i * 3)) h166 rfl fun a167 h167 => ?_; clear h166
    refine pk (v := .string y165.1) h167 rfl (rn_load1 rfl rfl Try.isAgg9 ((sl_at (hs.below hB10) hy165) 0 _ rfl)) fun a168 h168 => ?_; clear h167
    refine pw h168 rfl (op_new (v := fun N => .slice (some ⟨N, 0, none⟩) 1 1) (T := 9) (cs := #[.string y165.1]) (by kernel_rfl) (by kernel_rfl) (by kernel_rfl)) ?_; clear h168
    rintro _ w170 a169 ⟨N171, rfl, hN174, hz175, hk173, hg172⟩ h169
    have ha176 := row_fresh hf9 hN174
    have hz177 := hg172.size
    try dsimp only at h169
    have hr183 := row_kept_new hf9 hg172
    refine pw h169 rfl (op_append rfl w.heap.size 9 (z := .string (⟨#[]⟩)) (size := 1) (bytes := 16) Try.underlying103 (by kernel_rfl) rfl rfl rfl hr183 rfl hk173 rfl (by kernel_rfl) (by first | omega | (simp only [List.length_nil, List.length_append, List.length_cons, List.length_take, List.length_drop]; omega)) (by first | omega | (simp only [List.length_nil, List.length_append, List.length_cons, List.length_take, List.length_drop]; omega)) (by omega)) ?_; clear h169
    rintro v180 w179 a178 ⟨hr181, hg182⟩ h178
    have hr181' : w179.ownsRow w.heap.size 9 1 v180 (((l.take i).map (·.1) ++ [y165.1]).length) (((l.take i).map (·.1) ++ [y165.1]).flatMap strE) := row_push (y := y165.1) hr181 rfl rfl; clear hr181
    have hz184 := hg182.size
    refine pk0 (v := v180) h178 rfl fun a185 h185 => ?_; clear h178
    refine pl_nil ?_
    refine co_blockN ?_
    refine co_then ?_
    refine co_reg ?_
    refine pk0 (v := .int .i64 ((i : Nat) : Int)) h185 rfl fun a186 h186 => ?_; clear h185
    refine pk (v := .int .i64 ((i + 1 : Nat) : Int)) h186 rfl (rn_arith' rfl rfl rfl rfl rfl rfl (IntWalk.i64_in _ (by omega)) (by omega)) fun a187 h187 => ?_; clear h186
    refine pk0 (v := .int .i64 ((i + 1 : Nat) : Int)) h187 rfl fun a188 h188 => ?_; clear h187
    refine pl_nil ?_
    refine co_then ?_
    refine ⟨(l.length - (i + 1)), by omega, ?_⟩
    have hB189 := hb_new hB10 hg172
    have hB190 := hb_row hB189 hr183 (by omega) hg182
    exact ⟨i + 1, v180, h188.sub ⟨rfl, rfl, rfl, trivial⟩, rfl, by omega, (row_eq hr181' (by first | rfl | exact map_snoc (by assumption))), hB190⟩
def asOp (p : ValT) : OpT := (p.1, p.2, false)
def asPair (o : OpT) : ValT := (o.1, o.2.1)
theorem pair_last (l : List ValT) : ∀ k, lastG (l.map asOp) k = (pairG l k).map asOp := by
  refine snoc_ind (C := fun l => ∀ k, lastG (l.map asOp) k = (pairG l k).map asOp) (fun k => rfl) (fun l p ih k => ?_) l
  rw [List.map_append, List.map_cons, List.map_nil, lastG_snoc, pairG_snoc]
  unfold lastF pairF
  by_cases e : k = p.1
  · rw [if_pos (show k = (asOp p).1 from e), if_pos e]; rfl
  · rw [if_neg (show ¬ k = (asOp p).1 from e), if_neg e, ih k]
/-- What the pairs and the operations come to, told by the last operation of each key. -/
def gone (o : Option OpT) : Option ValT := match o with | none => none | some o => if o.2.2 = true then none else some (asPair o)
theorem ov_last (l : List ValT) (m : List OpT) : ∀ k, ovG l m k = gone (lastG (l.map asOp ++ m) k) := by
  refine snoc_ind (C := fun m => ∀ k, ovG l m k = gone (lastG (l.map asOp ++ m) k)) (fun k => ?_) (fun m o ih k => ?_) m
  · rw [List.append_nil, pair_last]
    show pairG l k = _
    cases h : pairG l k with
    | none => rfl
    | some p => rfl
  · rw [ovG_snoc, ← List.append_assoc, lastG_snoc]
    unfold ovF lastF
    by_cases e : k = o.1
    · rw [if_pos e, if_pos e]; rfl
    · rw [if_neg e, if_neg e, ih k]
def kept (ys : List OpT) : List ValT := (ys.filter fun o => !o.2.2).map asPair
theorem kept_yes {ys : List OpT} {i : Nat} {y : OpT} (h : ys[i]? = some y) (hd : y.2.2 = false) : kept (ys.take i) ++ [(y.1, y.2.1)] = kept (ys.take (i + 1)) := by rw [takeO_at h]; simp [kept, hd, asPair]
theorem kept_no {ys : List OpT} {i : Nat} {y : OpT} (h : ys[i]? = some y) (hd : y.2.2 = true) : kept (ys.take i) = kept (ys.take (i + 1)) := by rw [takeO_at h]; simp [kept, hd]
theorem kept_len (ys : List OpT) : (kept ys).length ≤ ys.length := by unfold kept; rw [List.length_map]; exact List.length_filter_le _ _
theorem over_set {l : List ValT} {m : List OpT} {ys : List OpT} (h : SetG (fun y : OpT => y.1) (lastG (l.map asOp ++ m)) ys) : SetG (fun y : ValT => y.1) (ovG l m) (kept ys) := by
  refine ⟨?_, fun y => ?_⟩
  · unfold kept
    rw [List.pairwise_map]
    exact (h.1.sublist List.filter_sublist).imp (fun {a b} hab => hab)
  · unfold kept
    rw [List.mem_map]
    constructor
    · rintro ⟨o, ho, rfl⟩
      rw [List.mem_filter] at ho
      obtain ⟨k, hk⟩ := (h.2 o).1 ho.1
      refine ⟨k, ?_⟩
      have hd : o.2.2 = false := by simpa using ho.2
      rw [ov_last, hk]; simp [gone, hd]
    · rintro ⟨k, hk⟩
      rw [ov_last] at hk
      cases hl : lastG (l.map asOp ++ m) k with
      | none => rw [hl] at hk; cases hk
      | some o =>
        rw [hl] at hk
        unfold gone at hk
        by_cases hd : o.2.2 = true
        · simp only [hd, if_true] at hk; cases hk
        · simp only [hd] at hk
          refine ⟨o, List.mem_filter.2 ⟨(h.2 o).2 ⟨k, hl⟩, by simpa using hd⟩, ?_⟩
          simpa using hk
set_option maxRecDepth 100000 in
theorem ropsOver_any (v : Value) (l : List ValT) (v2 : Value) (m : List OpT) (w : World) (hs : SliceOf valE 2 w v l) (hs2 : SliceOf opE 3 w v2 m) (hlen : l.length + m.length ≤ 1000) :
    Calls Try.prog 17 #[v, v2] w fun e w' => ∃ (ys : List ValT) (u : Value), e = .returned (u) ∧ w'.ownsRow w.heap.size 101 2 u ys.length (ys.flatMap valE) ∧ SetG (fun y : ValT => y.1) (ovG l m) ys ∧ ys.length ≤ l.length + m.length ∧ Below w.heap.size w w' := by
 have hB0 := Below.refl w.heap.size w
 have hl_hs := sl_len hs
 have hl_hs2 := sl_len hs2
 refine co_enter (n := 61) Try.func17 rfl rfl rfl [(0, v), (1, v2)] rfl (fun a h0 => ?_)
 refine co_seq ?_
 refine co_reg ?_
 refine pk0 (v := .slice none 0 0) h0 rfl fun a1 h1 => ?_; clear h0
 refine pl_nil ?_
 refine co_then ?_
 refine co_seq ?_
 refine co_reg ?_
 refine pk0 (v := .slice none 0 0) h1 rfl fun a2 h2 => ?_; clear h1
 refine pl_nil ?_
 refine co_then ?_
 refine co_seq ?_
 refine co_seq ?_
 refine co_reg ?_
 refine pk0 (v := .int .i64 0) h2 rfl fun a3 h3 => ?_; clear h2
 refine pl_nil ?_
 refine co_then ?_
 refine wp_block ?_
 have h4 : Slots 61 [(0, v), (1, v2), (5, .slice none 0 0), (6, .int .i64 0)] _ := h3.sub ⟨rfl, rfl, rfl, rfl, trivial⟩; clear h3
 refine co_loop (fun mm a x => ∃ (i : Nat) (u : Value), Slots 61 [(0, v), (1, v2), (5, u), (6, .int .i64 ((i : Nat) : Int))] a ∧ mm = l.length - i ∧ (i ≤ l.length) ∧ x.ownsRow w.heap.size 74 3 u ((l.take i).map asOp).length (((l.take i).map asOp).flatMap opE) ∧ Below w.heap.size w x) (l.length - 0) ?_ ?_
 · exact ⟨0, (.slice none 0 0), h4.sub ⟨rfl, rfl, rfl, (slot_eq rfl (congrArg (Value.int .i64) (by first | rfl | omega))), trivial⟩, rfl, by omega, (row_nilL _ _ _ _ _), hB0⟩
 · rintro k5 a6 w7 ⟨i, u, h6, rfl, hi8, hf9, hB10⟩
   have hz11 := hB10.size
   have hst : ((l.take i).map asOp).length ≤ i := by rw [List.length_map]; exact List.length_take_le _ _
   refine co_seq ?_
   refine co_seq ?_
   refine co_reg ?_
   refine pk0 (v := .int .i64 ((i : Nat) : Int)) h6 rfl fun a12 h12 => ?_; clear h6
   refine pk0 (v := v) h12 rfl fun a13 h13 => ?_; clear h12
   refine pk (v := .int .i64 ((l.length : Nat) : Int)) h13 rfl (rn_len rfl rfl Try.underlying58 (hs.below hB10)) fun a14 h14 => ?_; clear h13
   refine pk0 (v := .bool (decide (((i : Nat) : Int) < ((l.length : Nat) : Int)))) h14 rfl fun a15 h15 => ?_; clear h14
   refine pl_nil ?_
   refine co_then ?_
   cases hc16 : (decide (((i : Nat) : Int) < ((l.length : Nat) : Int)))
   ·
    rw [hc16] at h15
    have hp17 : ¬ (((i : Nat) : Int) < ((l.length : Nat) : Int)) := of_decide_eq_false hc16
    clear hc16
    refine co_false h15 rfl ?_
    refine wp_exit ?_
    refine co_thenX ?_
    refine co_thenX ?_
    refine co_blockX ?_
    refine co_then ?_
    refine co_seq ?_
    refine co_reg ?_
    refine pk0 (v := u) h15 rfl fun a18 h18 => ?_; clear h15
    refine pk0 (v := v2) h18 rfl fun a19 h19 => ?_; clear h18
    refine pw h19 rfl (op_appendSrc rfl w.heap.size 74 (z := .agg #[.string (⟨#[]⟩), .string (⟨#[]⟩), .bool false]) (size := 3) (bytes := 40) Try.underlying36 (by kernel_rfl) rfl rfl rfl hf9 rfl (hs2.below hB10) (fun y _ => ⟨opE_len y, opE_one y⟩) (by first | omega | (simp only [List.length_nil, List.length_append, List.length_cons, List.length_take, List.length_drop]; omega)) (by first | omega | (simp only [List.length_nil, List.length_append, List.length_cons, List.length_take, List.length_drop]; omega)) (by omega)) ?_; clear h19
    rintro v22 w21 a20 ⟨hr23, hg24⟩ h20
    have hr23' : w21.ownsRow w.heap.size 74 3 v22 (((l.take i).map asOp ++ m).length) (((l.take i).map asOp ++ m).flatMap opE) := row_app hr23; clear hr23
    have hz25 := hg24.size
    refine pk0 (v := v22) h20 rfl fun a26 h26 => ?_; clear h20
    refine pl_nil ?_
    refine co_then ?_
    refine co_seq ?_
    refine co_reg ?_
    refine pk0 (v := v22) h26 rfl fun a27 h27 => ?_; clear h26
    refine pw h27 rfl (op_call (args := #[v22]) (R := fun res xw => ∃ ys : List OpT, ∃ u : Value, res = u ∧ xw.ownsRow w21.heap.size 74 3 u ys.length (ys.flatMap opE) ∧ SetG (fun y : OpT => y.1) (lastG ((l.take i).map asOp ++ m)) ys ∧ ys.length ≤ ((l.take i).map asOp ++ m).length ∧ Below w21.heap.size w21 xw) rfl rfl rfl (by kernel_rfl) (by kernel_rfl) (Try.call46 _ _) (ropsNorm_any v22 ((l.take i).map asOp ++ m) w21 (row_sl hr23' opE_len) (by simp only [List.length_append, List.length_map, List.length_take]; omega)) (by rintro e x ⟨ys, u, rfl, hq32, hq33, hq34, hb35⟩; exact ⟨_, rfl, ⟨ys, u, rfl, hq32, hq33, hq34, hb35⟩⟩)) ?_; clear h27
    rintro u31 w29 a28 ⟨ys30, _, rfl, hq32, hq33, hq34, hb35⟩ h28
    have hz36 := hb35.size
    have hl37 := sl_len (row_sl hq32 opE_len)
    refine pk0 (v := u31) h28 rfl fun a38 h38 => ?_; clear h28
    refine pl_nil ?_
    refine co_then ?_
    refine co_seq ?_
    refine co_reg ?_
    refine pk0 (v := .slice none 0 0) h38 rfl fun a39 h39 => ?_; clear h38
    refine pl_nil ?_
    refine co_then ?_
    refine co_seq ?_
    refine co_seq ?_
    refine co_reg ?_
    refine pk0 (v := .int .i64 0) h39 rfl fun a40 h40 => ?_; clear h39
    refine pl_nil ?_
    refine co_then ?_
    refine wp_block ?_
    have hall : l.take i = l := List.take_of_length_le (by omega)
    have hset : SetG (fun y : OpT => y.1) (lastG (l.map asOp ++ m)) ys30 := by have := hq33; rwa [hall] at this
    have hysl : ys30.length ≤ l.length + m.length := by have h := (by assumption : ys30.length ≤ ((l.take i).map asOp ++ m).length); rw [List.length_append, List.length_map, hall] at h; exact h
    have h41 : Slots 61 [(5, u31), (7, .slice none 0 0), (8, .int .i64 0)] _ := h40.sub ⟨rfl, rfl, rfl, trivial⟩; clear h40
    refine co_loop (fun mm a x => ∃ (j : Nat) (u2 : Value), Slots 61 [(5, u31), (7, u2), (8, .int .i64 ((j : Nat) : Int))] a ∧ mm = ys30.length - j ∧ (j ≤ ys30.length) ∧ x.ownsRow w21.heap.size 74 3 u31 ys30.length (ys30.flatMap opE) ∧ x.ownsRow w.heap.size 101 2 u2 (kept (ys30.take j)).length ((kept (ys30.take j)).flatMap valE) ∧ Below w.heap.size w x) (ys30.length - 0) ?_ ?_
    have hB42 := hb_row hB10 hf9 (by omega) hg24
    have hB43 := hb_call hB42 hb35
    · exact ⟨0, (.slice none 0 0), h41.sub ⟨rfl, rfl, (slot_eq rfl (congrArg (Value.int .i64) (by first | rfl | omega))), trivial⟩, rfl, by omega, hq32, (row_nilL _ _ _ _ _), hB43⟩
    · rintro k44 a45 w46 ⟨j, u2, h45, rfl, hi47, hf48, hf49, hB50⟩
      have hz51 := hB50.size
      have hst3 : (kept (ys30.take j)).length ≤ j := Nat.le_trans (kept_len _) (List.length_take_le _ _)
      refine co_seq ?_
      refine co_seq ?_
      refine co_reg ?_
      refine pk0 (v := .int .i64 ((j : Nat) : Int)) h45 rfl fun a52 h52 => ?_; clear h45
      refine pk0 (v := u31) h52 rfl fun a53 h53 => ?_; clear h52
      refine pk (v := .int .i64 ((ys30.length : Nat) : Int)) h53 rfl (rn_lenOwn rfl rfl Try.underlying36 hf48) fun a54 h54 => ?_; clear h53
      refine pk0 (v := .bool (decide (((j : Nat) : Int) < ((ys30.length : Nat) : Int)))) h54 rfl fun a55 h55 => ?_; clear h54
      refine pl_nil ?_
      refine co_then ?_
      cases hc56 : (decide (((j : Nat) : Int) < ((ys30.length : Nat) : Int)))
      ·
       rw [hc56] at h55
       have hp57 : ¬ (((j : Nat) : Int) < ((ys30.length : Nat) : Int)) := of_decide_eq_false hc56
       clear hc56
       refine co_false h55 rfl ?_
       refine wp_exit ?_
       refine co_thenX ?_
       refine co_thenX ?_
       refine co_blockX ?_
       refine co_then ?_
       refine co_seq ?_
       refine co_reg ?_
       refine pk0 (v := u2) h55 rfl fun a58 h58 => ?_; clear h55
       refine pk0 (v := u2) h58 rfl fun a59 h59 => ?_; clear h58
       refine pl_nil ?_
       refine co_then ?_
       refine wp_ret ?_
       refine co_ret1 h59 rfl rfl ?_
       have hallj : ys30.take j = ys30 := List.take_of_length_le (by omega)
       exact ⟨_, _, rfl, (row_eq (row_lows hf49 (by omega)) (by rw [hallj])), over_set hset, by have := kept_len ys30; omega, hB50⟩
      ·
       rw [hc56] at h55
       have hp60 : ((j : Nat) : Int) < ((ys30.length : Nat) : Int) := of_decide_eq_true hc56
       clear hc56
       refine co_true h55 rfl ?_
       refine wp_skip ?_
       refine co_then ?_
       refine co_seq ?_
       refine wp_block ?_
       refine co_seq ?_
       refine co_reg ?_
       refine pk0 (v := u31) h55 rfl fun a61 h61 => ?_; clear h55
       refine pk0 (v := .int .i64 ((j : Nat) : Int)) h61 rfl fun a62 h62 => ?_; clear h61
       obtain ⟨y63, hy63⟩ : ∃ z, ys30[j]? = some z := ⟨_, List.getElem?_eq_getElem (by first | omega | (simp; done) | (simp; omega))⟩
       refine pk (v := pt (blkOf u31) (offOf u31 + j * 3)) h62 rfl (rn_index rfl rfl rfl Try.underlying36 Try.sizeOf74 (row_sl hf48 opE_len) (by omega) (by first | omega | (simp; done) | (simp; omega))) fun a64 h64 => ?_; clear h62
       refine pk0 (v := pt (blkOf u31) (offOf u31 + j * 3 + 2)) h64 rfl fun a65 h65 => ?_; clear h64
       refine pk (v := .bool y63.2.2) h65 rfl (rn_load1 rfl rfl Try.isAgg4 ((sl_at (row_sl hf48 opE_len) hy63) 2 _ rfl)) fun a66 h66 => ?_; clear h65
       cases hc67 : (y63.2.2)
       ·
        rw [hc67] at h66
        refine pk0 (v := .bool true) h66 rfl fun a68 h68 => ?_; clear h66
        refine pl_nil ?_
        refine co_then ?_
        refine co_true h68 rfl ?_
        refine dr_gen (fun x => Below w.heap.size w x ∧ x.ownsRow w21.heap.size 74 3 u31 ys30.length (ys30.flatMap opE)) (by kernel_rfl) (fun w69 hg70 => ?_) (fun w69 hg70 => ?_)
        ·
         have hz71 := hg70.size
         have hB72 := hb_new hB50 hg70
         have hr73 := row_kept_new hf48 hg70
         exact ⟨hB72, hr73⟩
        have hz74 := hg70.size
        have hB75 := hb_new hB50 hg70
        have hr76 := row_kept_new hf48 hg70
        refine dk0 0 (v := u2) h68 rfl rfl ⟨hB75, hr76⟩ fun a77 h77 => ?_; clear h68
        refine dk0 1 (v := u31) h77 rfl rfl ⟨hB75, hr76⟩ fun a78 h78 => ?_; clear h77
        refine dk0 2 (v := .int .i64 ((j : Nat) : Int)) h78 rfl rfl ⟨hB75, hr76⟩ fun a79 h79 => ?_; clear h78
        refine dk 3 (v := pt (blkOf u31) (offOf u31 + j * 3)) h79 rfl rfl ⟨hB75, hr76⟩ (fun x hx => (rn_index rfl rfl rfl Try.underlying36 Try.sizeOf74 (row_sl hx.2 opE_len) (by omega) (by first | omega | (simp; done) | (simp; omega)))) fun a80 h80 => ?_; clear h79
        refine dk0 4 (v := pt (blkOf u31) (offOf u31 + j * 3)) h80 rfl rfl ⟨hB75, hr76⟩ fun a81 h81 => ?_; clear h80
        refine dk 5 (v := .string y63.1) h81 rfl rfl ⟨hB75, hr76⟩ (fun x hx => (rn_load1 rfl rfl Try.isAgg9 ((sl_at (row_sl hx.2 opE_len) hy63) 0 _ rfl))) fun a82 h82 => ?_; clear h81
        refine dk0 6 (v := u31) h82 rfl rfl ⟨hB75, hr76⟩ fun a83 h83 => ?_; clear h82
        refine dk0 7 (v := .int .i64 ((j : Nat) : Int)) h83 rfl rfl ⟨hB75, hr76⟩ fun a84 h84 => ?_; clear h83
        refine dk 8 (v := pt (blkOf u31) (offOf u31 + j * 3)) h84 rfl rfl ⟨hB75, hr76⟩ (fun x hx => (rn_index rfl rfl rfl Try.underlying36 Try.sizeOf74 (row_sl hx.2 opE_len) (by omega) (by first | omega | (simp; done) | (simp; omega)))) fun a85 h85 => ?_; clear h84
        refine dk0 9 (v := pt (blkOf u31) (offOf u31 + j * 3 + 1)) h85 rfl rfl ⟨hB75, hr76⟩ fun a86 h86 => ?_; clear h85
        refine dk 10 (v := .string y63.2.1) h86 rfl rfl ⟨hB75, hr76⟩ (fun x hx => (rn_load1 rfl rfl Try.isAgg9 ((sl_at (row_sl hx.2 opE_len) hy63) 1 _ rfl))) fun a87 h87 => ?_; clear h86
        refine dk0 11 (v := .agg #[.string y63.1, .string y63.2.1]) h87 rfl rfl ⟨hB75, hr76⟩ fun a88 h88 => ?_; clear h87
        refine d1 12 h88 rfl rfl (op_new (v := fun N => .slice (some ⟨N, 0, none⟩) 1 1) (T := 101) (cs := #[.string y63.1, .string y63.2.1]) (by kernel_rfl) (by kernel_rfl) (by kernel_rfl)) ?_ ?_; clear h88
        ·
         rintro _ w90 ⟨N91, rfl, hN94, hz95, hk93, hg92⟩
         have ha96 := row_fresh hr76 hN94
         have hr98 := row_kept_new hf49 hg70
         have ha97 := row_fresh hr98 hN94
         have hz99 := hg92.size
         have hB100 := hb_new hB75 hg92
         have hr101 := row_kept_new hr76 hg92
         exact ⟨hB100, hr101⟩
        rintro _ w90 a89 ⟨N91, rfl, hN94, hz95, hk93, hg92⟩ h89
        have ha96 := row_fresh hr76 hN94
        have hr98 := row_kept_new hf49 hg70
        have ha97 := row_fresh hr98 hN94
        have hz99 := hg92.size
        try dsimp only at h89
        have hB100 := hb_new hB75 hg92
        have hr101 := row_kept_new hr76 hg92
        have hr107 := row_kept_new hr98 hg92
        refine d1 13 h89 rfl rfl (op_append rfl w.heap.size 101 (z := .agg #[.string (⟨#[]⟩), .string (⟨#[]⟩)]) (size := 2) (bytes := 32) Try.underlying58 (by kernel_rfl) rfl rfl rfl hr107 rfl hk93 rfl (by kernel_rfl) (by first | omega | (simp only [List.length_nil, List.length_append, List.length_cons, List.length_take, List.length_drop]; omega)) (by first | omega | (simp only [List.length_nil, List.length_append, List.length_cons, List.length_take, List.length_drop]; omega)) (by omega)) ?_ ?_; clear h89
        ·
         rintro v104 w103 ⟨hr105, hg106⟩
         have hr105' : w103.ownsRow w.heap.size 101 2 v104 ((kept (ys30.take j) ++ [(y63.1, y63.2.1)]).length) ((kept (ys30.take j) ++ [(y63.1, y63.2.1)]).flatMap valE) := row_push (y := (y63.1, y63.2.1)) hr105 rfl rfl; clear hr105
         have hz108 := hg106.size
         have hB109 := hb_row hB100 hr107 (by omega) hg106
         have hr110 := row_kept_row hr101 hr107 hg106 (by decide)
         exact ⟨hB109, hr110⟩
        rintro v104 w103 a102 ⟨hr105, hg106⟩ h102
        have hr105' : w103.ownsRow w.heap.size 101 2 v104 ((kept (ys30.take j) ++ [(y63.1, y63.2.1)]).length) ((kept (ys30.take j) ++ [(y63.1, y63.2.1)]).flatMap valE) := row_push (y := (y63.1, y63.2.1)) hr105 rfl rfl; clear hr105
        have hz108 := hg106.size
        have hB109 := hb_row hB100 hr107 (by omega) hg106
        have hr110 := row_kept_row hr101 hr107 hg106 (by decide)
        refine dk0 14 (v := v104) h102 rfl rfl ⟨hB109, hr110⟩ fun a111 h111 => ?_; clear h102
        refine dr_done (by kernel_rfl) ?_
        refine co_blockN ?_
        refine co_then ?_
        refine co_reg ?_
        refine pk0 (v := .int .i64 ((j : Nat) : Int)) h111 rfl fun a112 h112 => ?_; clear h111
        refine pk (v := .int .i64 ((j + 1 : Nat) : Int)) h112 rfl (rn_arith' rfl rfl rfl rfl rfl rfl (IntWalk.i64_in _ (by omega)) (by omega)) fun a113 h113 => ?_; clear h112
        refine pk0 (v := .int .i64 ((j + 1 : Nat) : Int)) h113 rfl fun a114 h114 => ?_; clear h113
        refine pl_nil ?_
        refine co_then ?_
        refine ⟨(ys30.length - (j + 1)), by omega, ?_⟩
        exact ⟨j + 1, v104, h114.sub ⟨rfl, rfl, rfl, trivial⟩, rfl, by omega, hr110, (row_eq hr105' (by first | rfl | exact kept_yes (by assumption) (by assumption) | exact kept_no (by assumption) (by assumption))), hB109⟩
       ·
        rw [hc67] at h66
        refine pk0 (v := .bool false) h66 rfl fun a115 h115 => ?_; clear h66
        refine pl_nil ?_
        refine co_then ?_
        refine co_false h115 rfl ?_
        refine wp_skip ?_
        refine co_blockN ?_
        refine co_then ?_
        refine co_reg ?_
        refine pk0 (v := .int .i64 ((j : Nat) : Int)) h115 rfl fun a116 h116 => ?_; clear h115
        refine pk (v := .int .i64 ((j + 1 : Nat) : Int)) h116 rfl (rn_arith' rfl rfl rfl rfl rfl rfl (IntWalk.i64_in _ (by omega)) (by omega)) fun a117 h117 => ?_; clear h116
        refine pk0 (v := .int .i64 ((j + 1 : Nat) : Int)) h117 rfl fun a118 h118 => ?_; clear h117
        refine pl_nil ?_
        refine co_then ?_
        refine ⟨(ys30.length - (j + 1)), by omega, ?_⟩
        exact ⟨j + 1, u2, h118.sub ⟨rfl, rfl, rfl, trivial⟩, rfl, by omega, hf48, (row_eq hf49 (by first | rfl | exact kept_yes (by assumption) (by assumption) | exact kept_no (by assumption) (by assumption))), hB50⟩
   ·
    rw [hc16] at h15
    have hp119 : ((i : Nat) : Int) < ((l.length : Nat) : Int) := of_decide_eq_true hc16
    clear hc16
    refine co_true h15 rfl ?_
    refine wp_skip ?_
    refine co_then ?_
    refine co_seq ?_
    refine wp_block ?_
    refine dr_gen (fun x => Below w.heap.size w x) (by kernel_rfl) (fun w120 hg121 => ?_) (fun w120 hg121 => ?_)
    ·
     have hz122 := hg121.size
     have hB123 := hb_new hB10 hg121
     exact hB123
    have hz124 := hg121.size
    have hB125 := hb_new hB10 hg121
    refine dk0 0 (v := u) h15 rfl rfl hB125 fun a126 h126 => ?_; clear h15
    refine dk0 1 (v := v) h126 rfl rfl hB125 fun a127 h127 => ?_; clear h126
    refine dk0 2 (v := .int .i64 ((i : Nat) : Int)) h127 rfl rfl hB125 fun a128 h128 => ?_; clear h127
    obtain ⟨y129, hy129⟩ : ∃ z, l[i]? = some z := ⟨_, List.getElem?_eq_getElem (by first | omega | (simp; done) | (simp; omega))⟩
    refine dk 3 (v := pt (blkOf v) (offOf v + i * 2)) h128 rfl rfl hB125 (fun x hx => (rn_index rfl rfl rfl Try.underlying58 Try.sizeOf101 (hs.below hx) (by omega) (by first | omega | (simp; done) | (simp; omega)))) fun a130 h130 => ?_; clear h128
    refine dk0 4 (v := pt (blkOf v) (offOf v + i * 2)) h130 rfl rfl hB125 fun a131 h131 => ?_; clear h130
    refine dk 5 (v := .string y129.1) h131 rfl rfl hB125 (fun x hx => (rn_load1 rfl rfl Try.isAgg9 ((sl_at (hs.below hx) hy129) 0 _ rfl))) fun a132 h132 => ?_; clear h131
    refine dk0 6 (v := v) h132 rfl rfl hB125 fun a133 h133 => ?_; clear h132
    refine dk0 7 (v := .int .i64 ((i : Nat) : Int)) h133 rfl rfl hB125 fun a134 h134 => ?_; clear h133
    refine dk 8 (v := pt (blkOf v) (offOf v + i * 2)) h134 rfl rfl hB125 (fun x hx => (rn_index rfl rfl rfl Try.underlying58 Try.sizeOf101 (hs.below hx) (by omega) (by first | omega | (simp; done) | (simp; omega)))) fun a135 h135 => ?_; clear h134
    refine dk0 9 (v := pt (blkOf v) (offOf v + i * 2 + 1)) h135 rfl rfl hB125 fun a136 h136 => ?_; clear h135
    refine dk 10 (v := .string y129.2) h136 rfl rfl hB125 (fun x hx => (rn_load1 rfl rfl Try.isAgg9 ((sl_at (hs.below hx) hy129) 1 _ rfl))) fun a137 h137 => ?_; clear h136
    refine dk0 11 (v := .agg #[.string y129.1, .string y129.2, .bool false]) h137 rfl rfl hB125 fun a138 h138 => ?_; clear h137
    refine d1 12 h138 rfl rfl (op_new (v := fun N => .slice (some ⟨N, 0, none⟩) 1 1) (T := 74) (cs := #[.string y129.1, .string y129.2, .bool false]) (by kernel_rfl) (by kernel_rfl) (by kernel_rfl)) ?_ ?_; clear h138
    ·
     rintro _ w140 ⟨N141, rfl, hN144, hz145, hk143, hg142⟩
     have hr147 := row_kept_new hf9 hg121
     have ha146 := row_fresh hr147 hN144
     have hz148 := hg142.size
     have hB149 := hb_new hB125 hg142
     exact hB149
    rintro _ w140 a139 ⟨N141, rfl, hN144, hz145, hk143, hg142⟩ h139
    have hr147 := row_kept_new hf9 hg121
    have ha146 := row_fresh hr147 hN144
    have hz148 := hg142.size
    try dsimp only at h139
    have hB149 := hb_new hB125 hg142
    have hr155 := row_kept_new hr147 hg142
    refine d1 13 h139 rfl rfl (op_append rfl w.heap.size 74 (z := .agg #[.string (⟨#[]⟩), .string (⟨#[]⟩), .bool false]) (size := 3) (bytes := 40) Try.underlying36 (by kernel_rfl) rfl rfl rfl hr155 rfl hk143 rfl (by kernel_rfl) (by first | omega | (simp only [List.length_nil, List.length_append, List.length_cons, List.length_take, List.length_drop]; omega)) (by first | omega | (simp only [List.length_nil, List.length_append, List.length_cons, List.length_take, List.length_drop]; omega)) (by omega)) ?_ ?_; clear h139
    ·
     rintro v152 w151 ⟨hr153, hg154⟩
     have hr153' : w151.ownsRow w.heap.size 74 3 v152 (((l.take i).map asOp ++ [(y129.1, y129.2, false)]).length) (((l.take i).map asOp ++ [(y129.1, y129.2, false)]).flatMap opE) := row_push (y := (y129.1, y129.2, false)) hr153 rfl rfl; clear hr153
     have hz156 := hg154.size
     have hB157 := hb_row hB149 hr155 (by omega) hg154
     exact hB157
    rintro v152 w151 a150 ⟨hr153, hg154⟩ h150
    have hr153' : w151.ownsRow w.heap.size 74 3 v152 (((l.take i).map asOp ++ [(y129.1, y129.2, false)]).length) (((l.take i).map asOp ++ [(y129.1, y129.2, false)]).flatMap opE) := row_push (y := (y129.1, y129.2, false)) hr153 rfl rfl; clear hr153
    have hz156 := hg154.size
    have hB157 := hb_row hB149 hr155 (by omega) hg154
    refine dk0 14 (v := v152) h150 rfl rfl hB157 fun a158 h158 => ?_; clear h150
    refine dr_done (by kernel_rfl) ?_
    refine co_blockN ?_
    refine co_then ?_
    refine co_reg ?_
    refine pk0 (v := .int .i64 ((i : Nat) : Int)) h158 rfl fun a159 h159 => ?_; clear h158
    refine pk (v := .int .i64 ((i + 1 : Nat) : Int)) h159 rfl (rn_arith' rfl rfl rfl rfl rfl rfl (IntWalk.i64_in _ (by omega)) (by omega)) fun a160 h160 => ?_; clear h159
    refine pk0 (v := .int .i64 ((i + 1 : Nat) : Int)) h160 rfl fun a161 h161 => ?_; clear h160
    refine pl_nil ?_
    refine co_then ?_
    refine ⟨(l.length - (i + 1)), by omega, ?_⟩
    exact ⟨i + 1, v152, h161.sub ⟨rfl, rfl, rfl, rfl, trivial⟩, rfl, by omega, (row_eq hr153' (by first | rfl | exact map_snoc (f := asOp) (by assumption))), hB157⟩
end Go.Proofs.Ytkjnhghniopnoaa

/- MvccState: what Over comes to. Conditions: none. -/
namespace Go.Proofs.Ytkjnhghniopnoaa
open Go.RowKit Go.PlainAid
set_option linter.unusedVariables false
set_option linter.unusedSimpArgs false

section
variable {f g : Fv} {la ts t : Int} {l : List OpT} {n : Nat} {K K' : List ByteArray} {p : ByteArray → Bool} {F T : ByteArray}
theorem has_ne {x : ByteArray} (h : (atS (f x) t).2 = true) : f x ≠ [] := fun e => by rw [e] at h; cases h
theorem hits_same (hK : KOf K f) (hK' : KOf K' g) (h : ∀ x, atS (g x) t = atS (f x) t) : hits g t (K'.filter p) = hits f t (K.filter p) := by
  have e : (K'.filter p).filter (fun k => (atS (g k) t).2) = (K.filter p).filter (fun k => (atS (f k) t).2) :=
    up_ext (key := fun x => x) ((hK'.up.sublist List.filter_sublist).sublist List.filter_sublist) ((hK.up.sublist List.filter_sublist).sublist List.filter_sublist) fun x => by
      simp only [List.mem_filter]
      rw [h x]
      constructor
      · rintro ⟨⟨h1, h2⟩, h3⟩; exact ⟨⟨(hK.mem x).2 (has_ne h3), h2⟩, h3⟩
      · rintro ⟨⟨h1, h2⟩, h3⟩; exact ⟨⟨(hK'.mem x).2 (has_ne (t := t) (by rw [h x]; exact h3)), h2⟩, h3⟩
  unfold hits
  rw [e]
  exact List.map_congr_left fun x _ => by rw [h x]
theorem hits_sameF (hK : KOf (ksOf f) f) (hK' : KOf (ksOf g) g) (h : ∀ x, atS (g x) t = atS (f x) t) : hitsF g t F T = hitsF f t F T := hits_same hK hK' h
end


/-- What a key is at a time, as a pair. -/
def gV (f : Fv) (t : Int) (k : ByteArray) : Option ValT := if (atS (f k) t).2 = true then some (k, (atS (f k) t).1) else none
section
variable {f : Fv} {la ts t : Int} {l : List OpT} {n : Nat} {F T : ByteArray}
theorem pairG_mem {l : List ValT} : l.Pairwise (fun a b => klt a.1 b.1 = true) → ∀ k y, pairG l k = some y ↔ y ∈ l ∧ y.1 = k := by
  refine snoc_ind (C := fun l => l.Pairwise (fun a b => klt a.1 b.1 = true) → ∀ k y, pairG l k = some y ↔ y ∈ l ∧ y.1 = k) (fun _ k y => by simp [pairG]) (fun l o ih hp k y => ?_) l
  obtain ⟨h1, -, h3⟩ := List.pairwise_append.1 hp
  rw [pairG_snoc]
  unfold pairF
  by_cases e : k = o.1
  · rw [if_pos e]
    constructor
    · intro h; cases h; exact ⟨by simp, e.symm⟩
    · rintro ⟨hy, hk⟩
      rcases List.mem_append.1 hy with hy | hy
      · have := h3 y hy o (by simp); rw [hk, e, klt_irr] at this; cases this
      · simp only [List.mem_singleton] at hy; rw [hy]
  · rw [if_neg e, ih h1 k y]
    constructor
    · rintro ⟨hy, hk⟩; exact ⟨by simp [hy], hk⟩
    · rintro ⟨hy, hk⟩
      rcases List.mem_append.1 hy with hy | hy
      · exact ⟨hy, hk⟩
      · simp only [List.mem_singleton] at hy; rw [hy] at hk; exact absurd hk.symm e
theorem hitsF_e : hitsF f t ⟨#[]⟩ ⟨#[]⟩ = hits f t (ksOf f) := by unfold hitsF; rw [inR_all]
theorem hits_mem (hK : KOf (ksOf f) f) {y : PairT} : y ∈ hits f t (ksOf f) ↔ gV f t y.1 = some y := by
  unfold hits gV
  rw [List.mem_map]
  constructor
  · rintro ⟨k, hk, rfl⟩
    have := (List.mem_filter.1 hk).2
    show (if (atS (f k) t).2 = true then some (k, (atS (f k) t).1) else none) = _
    rw [if_pos this]
  · intro h
    split at h
    · rename_i hh
      exact ⟨y.1, List.mem_filter.2 ⟨(hK.mem _).2 (has_ne hh), hh⟩, by injection h⟩
    · cases h
theorem hits_up (hK : KOf (ksOf f) f) : (hits f t (ksOf f)).Pairwise (fun a b => klt a.1 b.1 = true) := by
  unfold hits; rw [List.pairwise_map]; exact hK.up.sublist List.filter_sublist
theorem gV_key {k : ByteArray} {y : ValT} (h : gV f t k = some y) : y.1 = k := by unfold gV at h; split at h; (injection h with h; rw [← h]); cases h
theorem pairG_hits (hK : KOf (ksOf f) f) : pairG (hits f t (ksOf f)) = gV f t := by
  funext k
  refine Option.ext fun y => ?_
  rw [pairG_mem (hits_up hK), hits_mem hK]
  constructor
  · rintro ⟨h, rfl⟩; exact h
  · intro h; have := gV_key h; subst this; exact ⟨h, rfl⟩
theorem over_gV (hK : KOf (ksOf f) f) (ht : ts ≤ t) : ∀ k, ovG (hits f t (ksOf f)) l k = gV (putsF f ts l) t k := by
  refine snoc_ind (C := fun l => ∀ k, ovG (hits f t (ksOf f)) l k = gV (putsF f ts l) t k) (fun k => by show pairG _ k = _; rw [pairG_hits hK]; rfl) (fun l o ih k => ?_) l
  rw [ovG_snoc, putsF_snoc]
  unfold ovF
  by_cases e : k = o.1
  · subst e
    rw [if_pos rfl]
    unfold gV
    rw [upd_eq, at_later _ _ (show ((ts, o.2.1, o.2.2) : CellT).1 ≤ t from ht)]
    cases o.2.2 <;> simp
  · rw [if_neg e, ih k]; unfold gV; rw [upd_ne e]
theorem hits_over (hK : KOf (ksOf f) f) (hK' : KOf (ksOf (mvF f la ts l)) (mvF f la ts l)) (hE : mvE la ts l = 0) (ht : ts ≤ t) {ys : List ValT} (hs : SetG (fun y : ValT => y.1) (ovG (hitsF f t ⟨#[]⟩ ⟨#[]⟩) l) ys) : ys = hitsF (mvF f la ts l) t ⟨#[]⟩ ⟨#[]⟩ := by
  rw [hitsF_e] at hs ⊢
  have e1 : mvF f la ts l = putsF f ts l := by unfold mvF; rw [if_pos hE]
  refine SetG.uniq hs ⟨?_, fun y => ?_⟩
  · refine (hits_up hK').imp fun {a b} h => ?_
    rw [klt_data, bl_lt] at h
    exact of_decide_eq_true h
  · rw [hits_mem hK', e1]
    constructor
    · intro h; exact ⟨y.1, by rw [over_gV hK ht]; exact h⟩
    · rintro ⟨k, h⟩; rw [over_gV hK ht] at h; have := gV_key h; rw [this]; exact h
theorem hits_stay (hF : FOk f la n) (hK : KOf (ksOf f) f) (hK' : KOf (ksOf (mvF f la ts l)) (mvF f la ts l)) (hn : ¬ (mvE la ts l = 0 ∧ ts ≤ t)) : hitsF f t F T = hitsF (mvF f la ts l) t F T := by
  refine (hits_sameF hK hK' fun x => ?_).symm
  unfold mvF
  by_cases hE : mvE la ts l = 0
  · obtain ⟨h1, h2, h3⟩ := mv_good hE
    rw [if_pos hE]; exact puts_at (B := la) (n := n) (chkB_up h3) (by have : ¬ ts ≤ t := fun q => hn ⟨hE, q⟩; omega) x
  · rw [if_neg hE]
theorem hits_0 : hitsF (fun _ => []) t F T = [] := by unfold hitsF; rw [ks_0]; rfl
theorem scanM_no {H : List PairT} (h : H.length ≤ 1000) : scanM H 1000 = false := decide_eq_false (by simpa using h)
end
theorem mvOver {f : Fv} {la ts t : Int} (v v2 : Value) (l : List OpT) (w : World) (hK : KOf (ksOf f) f) (hK' : KOf (ksOf (mvF f la ts l)) (mvF f la ts l)) (hE : mvE la ts l = 0) (ht : ts ≤ t) (hs : SliceOf pairE 2 w v (hitsF f t ⟨#[]⟩ ⟨#[]⟩)) (hs2 : SliceOf opE 3 w v2 l) (hlen : (hitsF f t ⟨#[]⟩ ⟨#[]⟩).length + l.length ≤ 1000) :
    Calls Try.prog 17 #[v, v2] w fun e w' => ∃ (ao : Option Addr) (nn cap : Nat), e = .returned (.slice ao nn cap) ∧ w'.ownsRow w.heap.size 101 2 (.slice ao nn cap) (hitsF (mvF f la ts l) t ⟨#[]⟩ ⟨#[]⟩).length ((hitsF (mvF f la ts l) t ⟨#[]⟩ ⟨#[]⟩).flatMap pairE) ∧ Below w.heap.size w w' := by
  refine (ropsOver_any v (hitsF f t ⟨#[]⟩ ⟨#[]⟩) v2 l w hs hs2 hlen).mono ?_
  rintro e w' ⟨ys, u, rfl, hr, hset, -, hb⟩
  have := hits_over hK hK' hE ht hset
  subst this
  obtain ⟨ao, n, cap, rfl⟩ := own_sliceT hr
  exact ⟨ao, n, cap, rfl, hr, hb⟩

end Go.Proofs.Ytkjnhghniopnoaa

/- The document's store: Get. Conditions: at most 70000 keys. -/
namespace Go.Proofs.Ytkjnhghniopnoaa
open Go.RowKit Go.PlainAid
set_option linter.unusedVariables false
set_option linter.unusedSimpArgs false


def rwE (a : Kv) : List Value := [.string a.1, .slice a.2.a a.2.n a.2.c]
theorem rwE_len (a : Kv) : (rwE a).length = 2 := rfl
theorem rwE_one (a : Kv) : ∀ u ∈ rwE a, u.oneCell' = true := by intro u hu; simp [rwE] at hu; rcases hu with rfl | rfl <;> rfl
/-- A row's versions, where they lie. -/
def RwOk (w : World) (f : Fv) (a : Kv) : Prop := SliceOf cellE 3 w (slV a.2) (f a.1)
theorem toL_eq {a b : ByteArray} (h : (a.toList == b.toList) = true) : a = b := by
  rw [Go.ByteArray.toList_eq, Go.ByteArray.toList_eq] at h
  exact Go.WideShapes.bytes_inj (by simpa using h)
theorem none_of {L : List Kv} {f : Fv} {k : ByteArray} (hK : KOf (L.map (·.1)) f) (h : ∀ a ∈ L, a.1 ≠ k) : f k = [] := by
  by_cases e : f k = []
  · exact e
  · obtain ⟨a, ha, e2⟩ := List.mem_map.1 ((hK.mem k).2 e); exact absurd e2 (h a ha)

end Go.Proofs.Ytkjnhghniopnoaa

/- The document's store: Scan, Cells. Conditions: at most 70000 keys. -/
namespace Go.Proofs.Ytkjnhghniopnoaa
open Go.RowKit Go.PlainAid
set_option linter.unusedVariables false
set_option linter.unusedSimpArgs false


section
variable {f : Fv} {t most : Int} {F T : ByteArray} {L : List Kv} {i : Nat} {y : Kv}
end
/-- How many versions there are. -/
def csL (f : Fv) (M : List Kv) : Nat := (M.map fun a => (f a.1).length).sum
theorem csL_at {f : Fv} {L : List Kv} {i : Nat} {y : Kv} (hy : L[i]? = some y) : csL f (L.take i) + (f y.1).length = csL f (L.take (i + 1)) := by
  unfold csL; rw [takeO_at hy, List.map_append, List.sum_append]; simp
theorem csL_le {f : Fv} {la : Int} {n : Nat} (hF : FOk f la n) : ∀ L : List Kv, csL f L ≤ n * L.length
  | [] => Nat.zero_le _
  | a :: r => by
    have h1 := csL_le hF r; have h2 := hF.len a.1
    unfold csL at h1 ⊢
    simp only [List.map_cons, List.sum_cons, List.length_cons, Nat.mul_add, Nat.mul_one]; omega

set_option maxRecDepth 100000 in
set_option maxHeartbeats 1600000 in
theorem rcells_blk (d : Nat) (u : Value) (la : Int) (L : List Kv) (f : Fv) (n : Nat) (w : World) (hB : Blk w d 56 #[u, .int .u64 la]) (hs : SliceOf rwE 2 w u L) (hok : ∀ z ∈ L, (fun a => RwOk w f a) z) (hK : KOf (L.map (·.1)) f) (hF : FOk f la n) (hL : L.length ≤ 70000) (hn : n ≤ 800) :
    Calls Try.prog 23 #[pt d 0] w fun e w' => e = .returned (.int .i64 ((csL f L : Nat) : Int)) ∧ Below w.heap.size w w' := by
 have hB0 := Below.refl w.heap.size w
 have hl_hB := hB.lt
 have hl_hs := sl_len hs
 refine co_enter (n := 26) Try.func23 rfl rfl rfl [(0, pt d 0)] rfl (fun a h0 => ?_)
 refine co_seq ?_
 refine co_reg ?_
 refine pk0 (v := .int .i64 0) h0 rfl fun a1 h1 => ?_; clear h0
 refine pl_nil ?_
 refine co_then ?_
 refine co_seq ?_
 refine co_reg ?_
 refine pk0 (v := .int .i64 0) h1 rfl fun a2 h2 => ?_; clear h1
 refine pl_nil ?_
 refine co_then ?_
 refine co_seq ?_
 refine co_seq ?_
 refine co_reg ?_
 refine pk0 (v := .int .i64 0) h2 rfl fun a3 h3 => ?_; clear h2
 refine pl_nil ?_
 refine co_then ?_
 refine wp_block ?_
 have hcs0 : csL f (L.take 0) = 0 := rfl
 have h4 : Slots 26 [(0, pt d 0), (3, .int .i64 0), (4, .int .i64 0)] _ := h3.sub ⟨rfl, rfl, rfl, trivial⟩; clear h3
 refine co_loop (fun mm a x => ∃ (i : Nat) (m : Nat), Slots 26 [(0, pt d 0), (3, .int .i64 ((m : Nat) : Int)), (4, .int .i64 ((i : Nat) : Int))] a ∧ mm = L.length - i ∧ (i ≤ L.length) ∧ (m = csL f (L.take i)) ∧ Blk x d 56 #[u, .int .u64 la] ∧ Below w.heap.size w x) (L.length - 0) ?_ ?_
 · exact ⟨0, 0, h4.sub ⟨rfl, (slot_eq rfl (congrArg (Value.int .i64) (by first | rfl | omega))), (slot_eq rfl (congrArg (Value.int .i64) (by first | rfl | omega))), trivial⟩, rfl, by omega, by first | exact hcs0.symm | omega, hB, hB0⟩
 · rintro k5 a6 w7 ⟨i, m, h6, rfl, hi8, hi9, hf10, hB11⟩
   have hz12 := hB11.size
   have hl13 := hf10.lt
   have hcl := csL_le hF (L.take i)
   have hcl2 : n * (L.take i).length ≤ 800 * 70000 := Nat.mul_le_mul hn (by rw [List.length_take]; omega)
   have hcl3 : m ≤ 56000000 := by omega
   refine co_seq ?_
   refine co_seq ?_
   refine co_reg ?_
   refine pk0 (v := .int .i64 ((i : Nat) : Int)) h6 rfl fun a14 h14 => ?_; clear h6
   refine pk0 (v := pt d 0) h14 rfl fun a15 h15 => ?_; clear h14
   refine pk0 (v := pt d 0) h15 rfl fun a16 h16 => ?_; clear h15
   refine pk0 (v := pt d 0) h16 rfl fun a17 h17 => ?_; clear h16
   refine pk (v := u) h17 rfl (rn_load1 rfl rfl Try.isAgg54 (hf10.cell rfl)) fun a18 h18 => ?_; clear h17
   refine pk (v := .int .i64 ((L.length : Nat) : Int)) h18 rfl (rn_len rfl rfl Try.underlying54 (hs.below hB11)) fun a19 h19 => ?_; clear h18
   refine pk0 (v := .bool (decide (((i : Nat) : Int) < ((L.length : Nat) : Int)))) h19 rfl fun a20 h20 => ?_; clear h19
   refine pl_nil ?_
   refine co_then ?_
   cases hc21 : (decide (((i : Nat) : Int) < ((L.length : Nat) : Int)))
   ·
    rw [hc21] at h20
    have hp22 : ¬ (((i : Nat) : Int) < ((L.length : Nat) : Int)) := of_decide_eq_false hc21
    clear hc21
    refine co_false h20 rfl ?_
    refine wp_exit ?_
    refine co_thenX ?_
    refine co_thenX ?_
    refine co_blockX ?_
    refine co_then ?_
    refine co_seq ?_
    refine co_reg ?_
    refine pk0 (v := .int .i64 ((m : Nat) : Int)) h20 rfl fun a23 h23 => ?_; clear h20
    refine pk0 (v := .int .i64 ((m : Nat) : Int)) h23 rfl fun a24 h24 => ?_; clear h23
    refine pl_nil ?_
    refine co_then ?_
    refine wp_ret ?_
    refine co_ret1 h24 rfl rfl ?_
    have hk9 : L.take i = L := List.take_of_length_le (by omega)
    have hm9 : m = csL f L := by rw [← hk9]; assumption
    exact ⟨by rw [hm9], hB11⟩
   ·
    rw [hc21] at h20
    have hp25 : ((i : Nat) : Int) < ((L.length : Nat) : Int) := of_decide_eq_true hc21
    clear hc21
    refine co_true h20 rfl ?_
    refine wp_skip ?_
    refine co_then ?_
    refine co_seq ?_
    refine wp_block ?_
    refine co_reg ?_
    refine pk0 (v := .int .i64 ((m : Nat) : Int)) h20 rfl fun a26 h26 => ?_; clear h20
    refine pk0 (v := pt d 0) h26 rfl fun a27 h27 => ?_; clear h26
    refine pk0 (v := pt d 0) h27 rfl fun a28 h28 => ?_; clear h27
    refine pk0 (v := pt d 0) h28 rfl fun a29 h29 => ?_; clear h28
    refine pk (v := u) h29 rfl (rn_load1 rfl rfl Try.isAgg54 (hf10.cell rfl)) fun a30 h30 => ?_; clear h29
    refine pk0 (v := .int .i64 ((i : Nat) : Int)) h30 rfl fun a31 h31 => ?_; clear h30
    obtain ⟨y32, hy32⟩ : ∃ z, L[i]? = some z := ⟨_, List.getElem?_eq_getElem (by first | omega | (simp; done) | (simp; omega))⟩
    have oky32 := hok _ (List.mem_of_getElem? hy32)
    have hfly32 := hF.len y32.1
    refine pk (v := pt (blkOf u) (offOf u + i * 2)) h31 rfl (rn_index rfl rfl rfl Try.underlying54 Try.sizeOf106 (hs.below hB11) (by omega) (by first | omega | (simp; done) | (simp; omega))) fun a33 h33 => ?_; clear h31
    refine pk0 (v := pt (blkOf u) (offOf u + i * 2 + 1)) h33 rfl fun a34 h34 => ?_; clear h33
    refine pk (v := .slice y32.2.a y32.2.n y32.2.c) h34 rfl (rn_load1 rfl rfl Try.isAgg90 ((sl_at (hs.below hB11) hy32) 1 _ rfl)) fun a35 h35 => ?_; clear h34
    refine pk (v := .int .i64 (((f y32.1).length : Nat) : Int)) h35 rfl (rn_len rfl rfl Try.underlying90 (SliceOf.below (show SliceOf cellE 3 _ (.slice y32.2.a y32.2.n y32.2.c) _ from oky32) hB11)) fun a36 h36 => ?_; clear h35
    refine pk (v := .int .i64 ((m + (f y32.1).length : Nat) : Int)) h36 rfl (rn_arith' rfl rfl rfl rfl rfl rfl (IntWalk.i64_in _ (by omega)) (by omega)) fun a37 h37 => ?_; clear h36
    refine pk0 (v := .int .i64 ((m + (f y32.1).length : Nat) : Int)) h37 rfl fun a38 h38 => ?_; clear h37
    refine pl_nil ?_
    refine co_blockN ?_
    refine co_then ?_
    refine co_reg ?_
    refine pk0 (v := .int .i64 ((i : Nat) : Int)) h38 rfl fun a39 h39 => ?_; clear h38
    refine pk (v := .int .i64 ((i + 1 : Nat) : Int)) h39 rfl (rn_arith' rfl rfl rfl rfl rfl rfl (IntWalk.i64_in _ (by omega)) (by omega)) fun a40 h40 => ?_; clear h39
    refine pk0 (v := .int .i64 ((i + 1 : Nat) : Int)) h40 rfl fun a41 h41 => ?_; clear h40
    refine pl_nil ?_
    refine co_then ?_
    refine ⟨(L.length - (i + 1)), by omega, ?_⟩
    have hcs9 := csL_at (f := f) hy32
    exact ⟨i + 1, (m + (f y32.1).length), h41.sub ⟨rfl, rfl, rfl, trivial⟩, rfl, by omega, by first | exact hcs0.symm | omega, hf10, hB11⟩
end Go.Proofs.Ytkjnhghniopnoaa

/- The document's store: Prune. Conditions: at most 70000 keys, 800 versions each. -/
namespace Go.Proofs.Ytkjnhghniopnoaa
open Go.RowKit Go.PlainAid
set_option linter.unusedVariables false
set_option linter.unusedSimpArgs false


def RwsK (w : World) (f : Fv) (L : List Kv) : Prop := ∀ a ∈ L, cellRow w (slV a.2) (f a.1)
section
variable {w x : World} {f g : Fv} {L M : List Kv} {h : Int} {i n : Nat} {y : Kv}
theorem RwsK.new (h : RwsK w f L) (hg : w.grownBy x none) : RwsK x f L := fun a ha => row_kept_new (h a ha) hg
theorem RwsK.blk {N : Nat} {T : TypeId} {cs : Array Value} (h : RwsK w f L) (hb : Blk w N T cs) (hT : 99 ≠ T) (hg : w.grownBy x (some N)) : RwsK x f L := fun a ha => row_kept_at (h a ha) hg (own_neT (h a ha) hb hT)
theorem RwsK.row {B sz q : Nat} {T : TypeId} {v : Value} {xs : List Value} (h : RwsK w f L) (hr : w.ownsRow B T sz v q xs) (hT : 99 ≠ T) (hg : w.grownBy x v.ownBlock) : RwsK x f L := fun a ha => row_kept_row (h a ha) hr hg hT
theorem RwsK.snoc (h : RwsK w f L) (hy : cellRow w (slV y.2) (f y.1)) : RwsK w f (L ++ [y]) := fun a ha => by
  rcases List.mem_append.1 ha with ha | ha
  · exact h a ha
  · simp only [List.mem_singleton] at ha; subst ha; exact hy
theorem RwsK.nil : RwsK w f [] := fun a ha => by simp at ha
theorem RwsK.ok (h : RwsK w f L) : ∀ a ∈ L, RwOk w f a := fun a ha => cellRow.sl (h a ha)
end

end Go.Proofs.Ytkjnhghniopnoaa

/- The document's store: what lay comes to. Conditions: none. -/
namespace Go.Proofs.Ytkjnhghniopnoaa
open Go.RowKit Go.PlainAid
set_option linter.unusedVariables false
set_option linter.unusedSimpArgs false


section
variable {w x : World} {f : Fv} {L : List Kv} {i : Nat} {y : Kv} {k : ByteArray} {l : List CellT} {z : SlT}
theorem RwsK.under {N : Nat} (h : RwsK w f L) (hN : N = w.heap.size) : ∀ a ∈ L, ∀ g, (slV a.2).ownBlock = some g → g < N := fun a ha g hg => by have := ((h a ha).lt g hg).2; omega
theorem RwsK.rowU {N sz q : Nat} {T : TypeId} {v : Value} {xs : List Value} (h : RwsK w f L) (hu : ∀ a ∈ L, ∀ g, (slV a.2).ownBlock = some g → g < N) (hr : w.ownsRow N T sz v q xs) (hg : w.grownBy x v.ownBlock) : RwsK x f L := fun a ha => row_kept_ap (h a ha) hr (hu a ha) hg
theorem RwsK.atU {N : Nat} (h : RwsK w f L) (hu : ∀ a ∈ L, ∀ g, (slV a.2).ownBlock = some g → g < N) (hg : w.grownBy x (some N)) : RwsK x f L := fun a ha => row_kept_at (h a ha) hg (fun q => by have := hu a ha N q; omega)
theorem RwsK.ins (h : RwsK w f L) (hk : f k = []) : RwsK w f (L.take i ++ [(k, (⟨none, 0, 0⟩ : SlT))] ++ L.drop i) := fun a ha => by
  rcases List.mem_append.1 ha with ha | ha
  · rcases List.mem_append.1 ha with ha | ha
    · exact h a (List.mem_of_mem_take ha)
    · simp only [List.mem_singleton] at ha
      subst ha
      show cellRow w (.slice none 0 0) (f k)
      rw [hk]; exact World.ownsRow_nil _ _ _ _
  · exact h a (List.mem_of_mem_drop ha)
theorem RwsK.set (h : RwsK w f L) (hup : Kup (L.map (·.1))) (hy : L[i]? = some y) (hk : y.1 = k) (hm : cellRow w (slV z) l) : RwsK w (upd f k l) (L.set i (y.1, z)) := fun a ha => by
  obtain ⟨hi, e⟩ := List.getElem?_eq_some_iff.1 hy
  obtain ⟨j, hj, e2⟩ := List.mem_iff_getElem.1 ha
  rw [List.length_set] at hj
  rw [List.getElem_set] at e2
  split at e2
  · subst e2; show cellRow w (slV z) (upd f k l y.1); rw [hk, upd_eq]; exact hm
  · rename_i hne
    have hne2 : a.1 ≠ k := by
      have e' : k = L[i].1 := by rw [e, hk]
      rw [← e2, e']
      have hp := List.pairwise_iff_getElem.1 hup
      rcases Nat.lt_or_gt_of_ne hne with q | q
      · have := hp i j (by simpa using hi) (by simpa using hj) q; simp only [List.getElem_map] at this; exact (klt_ne this).symm
      · have := hp j i (by simpa using hj) (by simpa using hi) q; simp only [List.getElem_map] at this; exact klt_ne this
    rw [upd_ne hne2]; exact h a (by rw [← e2]; exact List.getElem_mem hj)
theorem lay_up (hK : KOf (L.map (·.1)) f) (ht : ∀ a ∈ L.take i, klt a.1 k = true) (hn : L.length ≤ i ∨ ∃ y, L[i]? = some y ∧ klt y.1 k = false ∧ (y.1.toList == k.toList) = false) : Kup ((L.take i ++ [(k, (⟨none, 0, 0⟩ : SlT))] ++ L.drop i).map (·.1)) ∧ f k = [] := by
  have hd : ∀ a ∈ L.drop i, klt k a.1 = true := fun a ha => by
    rcases hn with hn | ⟨y, hy, h1, h2⟩
    · rw [List.drop_eq_nil_of_le hn] at ha; simp at ha
    · obtain ⟨hi, e⟩ := List.getElem?_eq_some_iff.1 hy
      have h3 : klt k y.1 = true := by
        cases hq : klt k y.1 with
        | true => rfl
        | false => have := klt_eq h1 hq; rw [this] at h2; simp at h2
      rw [List.drop_eq_getElem_cons hi] at ha
      rcases List.mem_cons.1 ha with e2 | ha
      · rw [e2, e]; exact h3
      · have hp := List.pairwise_iff_getElem.1 hK.up
        obtain ⟨j, hj, e2⟩ := List.mem_iff_getElem.1 ha
        rw [List.length_drop] at hj
        rw [List.getElem_drop] at e2
        have := hp i (i + 1 + j) (by simpa using hi) (by simp; omega) (by omega)
        simp only [List.getElem_map] at this
        rw [e2, e] at this
        exact klt_tr h3 this
  have hu := hK.up
  refine ⟨?_, none_of hK fun a ha => ?_⟩
  · rw [List.map_append, List.map_append]
    refine List.pairwise_append.2 ⟨List.pairwise_append.2 ⟨?_, by simp, ?_⟩, ?_, ?_⟩
    · exact hu.sublist ((List.take_sublist i L).map _)
    · intro a ha b hb
      obtain ⟨a', ha', rfl⟩ := List.mem_map.1 ha
      simp at hb; subst hb; exact ht a' ha'
    · exact hu.sublist ((List.drop_sublist i L).map _)
    · intro a ha b hb
      obtain ⟨b', hb', rfl⟩ := List.mem_map.1 hb
      rcases List.mem_append.1 ha with ha | ha
      · obtain ⟨a', ha', rfl⟩ := List.mem_map.1 ha; exact klt_tr (ht a' ha') (hd b' hb')
      · simp at ha; subst ha; exact hd b' hb'
  · rw [← List.take_append_drop i L] at ha
    rcases List.mem_append.1 ha with ha | ha
    · exact klt_ne (ht a ha)
    · exact (klt_ne (hd a ha)).symm
theorem lay_kof {M : List Kv} (hK : KOf (L.map (·.1)) f) (hup : Kup (M.map (·.1))) (hm : ∀ x, x ∈ M.map (·.1) ↔ x = k ∨ x ∈ L.map (·.1)) (hl : l ≠ []) : KOf (M.map (·.1)) (upd f k l) := by
  refine ⟨hup, fun x => ?_⟩
  rw [hm]
  by_cases e : x = k
  · subst e; rw [upd_eq]; exact ⟨fun _ => hl, fun _ => .inl rfl⟩
  · rw [upd_ne e, ← hK.mem x]; exact ⟨fun q => q.resolve_left e, .inr⟩
theorem set_keys (hy : L[i]? = some y) : (L.set i (y.1, z)).map (·.1) = L.map (·.1) := by
  obtain ⟨hi, e⟩ := List.getElem?_eq_some_iff.1 hy
  rw [List.map_set]
  show (L.map (·.1)).set i y.1 = L.map (·.1)
  rw [← e]
  apply List.ext_getElem?
  intro j
  rw [List.getElem?_set]
  split
  · rename_i h; subst h; simp [hi]
  · rfl
theorem lay_new (hK : KOf (L.map (·.1)) f) (hup : Kup ((L.take i ++ [(k, (⟨none, 0, 0⟩ : SlT))] ++ L.drop i).map (·.1))) (hy : (L.take i ++ [(k, (⟨none, 0, 0⟩ : SlT))] ++ L.drop i)[i]? = some y) (hl : l ≠ []) : KOf (((L.take i ++ [(k, (⟨none, 0, 0⟩ : SlT))] ++ L.drop i).set i (y.1, z)).map (·.1)) (upd f k l) := by
  refine lay_kof hK ?_ (fun x => ?_) hl <;> rw [set_keys hy]
  · exact hup
  · have e : L.map (·.1) = (L.take i).map (·.1) ++ (L.drop i).map (·.1) := by rw [← List.map_append, List.take_append_drop]
    rw [e, List.map_append, List.map_append]
    simp only [List.mem_append, List.map_cons, List.map_nil, List.mem_singleton]
    constructor
    · rintro ((h | h) | h)
      · exact .inr (.inl h)
      · exact .inl h
      · exact .inr (.inr h)
    · rintro (h | h | h)
      · exact .inl (.inr h)
      · exact .inl (.inl h)
      · exact .inr h
theorem lay_key (hi : i ≤ L.length) (hy : (L.take i ++ [(k, (⟨none, 0, 0⟩ : SlT))] ++ L.drop i)[i]? = some y) : y.1 = k := by
  rw [List.append_assoc, List.getElem?_append_right (by rw [List.length_take]; omega), List.length_take, show i - min i L.length = 0 by omega] at hy
  simp at hy; rw [← hy]
theorem lay_old (hK : KOf (L.map (·.1)) f) (hy : L[i]? = some y) (hk : y.1 = k) (hl : l ≠ []) : KOf ((L.set i (y.1, z)).map (·.1)) (upd f k l) := by
  refine lay_kof hK ?_ (fun x => ?_) hl <;> rw [set_keys hy]
  · exact hK.up
  · constructor
    · exact .inr
    · rintro (h | h)
      · rw [h, ← hk]; exact List.mem_map_of_mem (List.mem_of_getElem? hy)
      · exact h
theorem from_old {j n : Nat} (h : ∀ g, (slV z).ownBlock = some g → n ≤ g) : ∀ a ∈ L.set j (k, z), (∃ b ∈ L, b.2 = a.2) ∨ ∀ g, (slV a.2).ownBlock = some g → n ≤ g := fun a ha => by
  rcases List.mem_or_eq_of_mem_set ha with ha | rfl
  · exact .inl ⟨a, ha, rfl⟩
  · exact .inr h
theorem from_new {j n : Nat} {k2 : ByteArray} (h : ∀ g, (slV z).ownBlock = some g → n ≤ g) : ∀ a ∈ (L.take i ++ [(k, (⟨none, 0, 0⟩ : SlT))] ++ L.drop i).set j (k2, z), (∃ b ∈ L, b.2 = a.2) ∨ ∀ g, (slV a.2).ownBlock = some g → n ≤ g := fun a ha => by
  rcases List.mem_or_eq_of_mem_set ha with ha | rfl
  · rcases List.mem_append.1 ha with ha | ha
    · rcases List.mem_append.1 ha with ha | ha
      · exact .inl ⟨a, List.mem_of_mem_take ha, rfl⟩
      · simp only [List.mem_singleton] at ha; subst ha; exact .inr fun g hg => by cases hg
    · exact .inl ⟨a, List.mem_of_mem_drop ha, rfl⟩
  · exact .inr h
theorem eqB_of {b : Bool} (h : (!b) = false) : b = true := by cases b with | true => rfl | false => cases h
theorem lay_step (h : ∀ a ∈ L.take i, klt a.1 k = true) (hy : L[i]? = some y) (hk : klt y.1 k = true) : ∀ a ∈ L.take (i + 1), klt a.1 k = true := by
  rw [takeO_at hy]
  intro a ha
  rcases List.mem_append.1 ha with ha | ha
  · exact h a ha
  · simp only [List.mem_singleton] at ha; subst ha; exact hk
end

end Go.Proofs.Ytkjnhghniopnoaa
