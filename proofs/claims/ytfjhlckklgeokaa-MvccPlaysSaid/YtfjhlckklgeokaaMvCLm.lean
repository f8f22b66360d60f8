/- Package mvcc: zero, Get, Put. Conditions: at most 70000 keys, 800 versions each, 20 operations. -/
import Derived.Test.YtfjhlckklgeokaaLm6
import Derived.Test.YtfjhlckklgeokaaRlgO
import Derived.Test.YtfjhlckklgeokaaGo
import Derived.Test.YtfjhlckklgeokaaPexV
namespace Go.Proofs.Ytfjhlckklgeokaa
open Go.RowKit Go.PlainAid
set_option linter.unusedVariables false
set_option linter.unusedSimpArgs false

set_option maxRecDepth 100000 in
theorem mzero_any (b : Nat) (p : Value) (u : Value) (c : Value) (w : World) (hB : Blk w b 57 #[.bool true, p, u, c]) :
    Calls Try.prog 25 #[pt b 0] w fun e w' => e = .returned (.bool false) ∧ w = w' := by
 have hB0 := Below.refl w.heap.size w
 have hl_hB := hB.lt
 refine co_enter (n := 12) Try.func25 rfl rfl rfl [(0, pt b 0)] rfl (fun a h0 => ?_)
 refine co_seq ?_
 refine co_reg ?_
 refine pk0 (v := .bool false) h0 rfl fun a1 h1 => ?_; clear h0
 refine pl_nil ?_
 refine co_then ?_
 refine co_seq ?_
 refine co_reg ?_
 refine pk0 (v := pt b 0) h1 rfl fun a2 h2 => ?_; clear h1
 refine pk0 (v := .bool false) h2 rfl fun a3 h3 => ?_; clear h2
 refine pk0 (v := .bool false) h3 rfl fun a4 h4 => ?_; clear h3
 refine pk0 (v := pt b 0) h4 rfl fun a5 h5 => ?_; clear h4
 refine pk0 (v := pt b 0) h5 rfl fun a6 h6 => ?_; clear h5
 refine pk0 (v := pt b 0) h6 rfl fun a7 h7 => ?_; clear h6
 refine pk (v := .bool true) h7 rfl (rn_load1 rfl rfl Try.isAgg4 (hB.cell rfl)) fun a8 h8 => ?_; clear h7
 refine pk0 (v := .bool false) h8 rfl fun a9 h9 => ?_; clear h8
 refine pk0 (v := .bool false) h9 rfl fun a10 h10 => ?_; clear h9
 refine pk0 (v := .bool false) h10 rfl fun a11 h11 => ?_; clear h10
 refine pl_nil ?_
 refine co_then ?_
 refine wp_ret ?_
 refine co_ret1 h11 rfl rfl ?_
 exact ⟨rfl, rfl⟩

theorem cellE_len (c : CellT) : (cellE c).length = 3 := rfl
theorem cellE_oneC (c : CellT) : ∀ u ∈ cellE c, u.oneCell' = true := by intro u hu; simp [cellE] at hu; rcases hu with rfl | rfl | rfl <;> rfl
section
variable {S : Nat → Prop} {w x : World}
theorem sl_butN {α : Type} {enc : α → List Value} {sz : Nat} {v : Value} {l : List α} (h : SliceOf enc sz w v l) (hb : But S w x) (hv : l ≠ [] → ∀ k, v.ownBlock = some k → ¬ S k) : SliceOf enc sz x v l := by
  obtain ⟨ao, cap, rfl, h1, h2, h3, h4⟩ := h
  refine ⟨ao, cap, rfl, h1, h2, h3, fun j hj => ?_⟩
  obtain ⟨b, off, e, hr⟩ := h4 j hj
  subst e
  refine ⟨b, off, rfl, fun i u hu => ?_⟩
  have hc := hr i u hu
  have hlt := World.block_lt_of_cell? w _ hc
  exact (World.cell?_of_block (w := w) (hb.block b hlt (hv (fun q => by subst q; simp at hj) b rfl))).trans hc
end
theorem keyUp_klt {q k : ByteArray} : keyUp (some q) k = klt q k := rfl
theorem chkL_up : ∀ (p : Option ByteArray) (l : List OpT), chkL p l = 0 → (∀ q, p = some q → ∀ z ∈ l, klt q z.1 = true) ∧ l.Pairwise (fun a b => klt a.1 b.1 = true)
  | _, [], _ => ⟨fun _ _ z hz => by simp at hz, List.Pairwise.nil⟩
  | p, o :: r, h => by
    unfold chkL at h
    split at h
    · rename_i h0; exact absurd h h0
    · split at h
      · rename_i hu
        obtain ⟨h1, h2⟩ := chkL_up (some o.1) r h
        refine ⟨fun q e z hz => ?_, List.pairwise_cons.2 ⟨fun z hz => h1 o.1 rfl z hz, h2⟩⟩
        subst e
        rcases List.mem_cons.1 hz with rfl | hz
        · exact hu
        · exact klt_tr (show klt q o.1 = true from hu) (h1 o.1 rfl z hz)
      · cases h
theorem chkB_up {l : List OpT} {c r : Int} (h : chkB c r l = 0) : l.Pairwise (fun a b => klt a.1 b.1 = true) := (chkL_up none l (chkB_ok h).2.2.2).2
/-- What Put answers, and what it comes to. -/
def mvE (la ts : Int) (l : List OpT) : Int := if ts = 0 then 5 else if ts ≤ la then 18 else chkB 0 1 l
noncomputable def mvF (f : Fv) (la ts : Int) (l : List OpT) : Fv := if mvE la ts l = 0 then putsF f ts l else f
def mvLa (la ts : Int) (l : List OpT) : Int := if mvE la ts l = 0 then ts else la
def mvCe (la ts ce : Int) (l : List OpT) : Int := if mvE la ts l = 0 then ce + l.length else ce
section
variable {la ts ce : Int} {l : List OpT} {f : Fv} {n k : Nat} {y : OpT}
theorem mvE_a (h : ts = 0) : mvE la ts l = 5 := if_pos h
theorem mvE_b (h : ¬ ts = 0) (h2 : ts ≤ la) : mvE la ts l = 18 := by unfold mvE; rw [if_neg h, if_pos h2]
theorem mvE_c (h : ¬ ts = 0) (h2 : ¬ ts ≤ la) : mvE la ts l = chkB 0 1 l := by unfold mvE; rw [if_neg h, if_neg h2]
theorem mv_now (hF : FOk f la n) (hup : l.Pairwise (fun a b => klt a.1 b.1 = true)) (hy : l[k]? = some y) (hlt : la < ts) (hn : n ≤ 800) : (putsF f ts (l.take k) y.1).length ≤ 900 ∧ lastTs 0 (putsF f ts (l.take k) y.1) < ts := by
  obtain ⟨hk, e⟩ := List.getElem?_eq_some_iff.1 hy
  have e2 : putsF f ts (l.take k) y.1 = f y.1 := putsF_off fun o ho => by
    obtain ⟨j, hj, e3⟩ := List.mem_iff_getElem.1 ho
    rw [List.length_take] at hj
    rw [List.getElem_take] at e3
    rw [← e3, ← e]
    exact klt_ne (List.pairwise_iff_getElem.1 hup j k (by omega) hk (by omega))
  rw [e2]
  have h1 := hF.len y.1; have h2 := hF.le y.1
  exact ⟨by omega, by omega⟩
theorem mv_take (hy : l[k]? = some y) : putsF f ts (l.take (k + 1)) = upd (putsF f ts (l.take k)) y.1 (putsF f ts (l.take k) y.1 ++ [(ts, y.2.1, y.2.2)]) := by rw [takeO_at hy, putsF_snoc]
end
theorem strE_len (x : ByteArray) : (strE x).length = 1 := rfl
theorem strE_one (x : ByteArray) : ∀ u ∈ strE x, u.oneCell' = true := by intro u hu; simp [strE] at hu; subst hu; rfl
theorem vkeys2_any (S : Nat → Prop) (w : World) (tb : Nat) (K : List ByteArray) (f : Fv) (F T : ByteArray) (h : VkO S w tb K f) (hK : K.length ≤ 80000) :
    Calls Try.prog 32 #[pt tb 0, .string F, .string T] w fun e w' => ∃ (ao : Option Addr) (nn cap : Nat), e = .returned (.slice ao nn cap) ∧ w'.ownsRow w.heap.size 9 1 (.slice ao nn cap) (K.filter (inR F T)).length ((K.filter (inR F T)).flatMap strE) ∧ Below w.heap.size w w' := by
  refine (vkeys_any S w tb K f F T h hK).mono ?_
  rintro e w' ⟨u, rfl, hr, hb⟩
  obtain ⟨ao, n, cap, rfl⟩ := own_sliceT hr
  exact ⟨ao, n, cap, rfl, hr, hb⟩
set_option maxRecDepth 100000
theorem mget_blk (b tb : Nat) (u c : Value) (S : Nat → Prop) (K : List ByteArray) (f : Fv) (k : ByteArray) (t la : Int) (n : Nat) (w : World) (hB : Blk w b 57 #[.bool true, pt tb 0, u, c]) (hV : VkO S w tb K f) (hF : FOk f la n) :
    Calls Try.prog 19 #[pt b 0, .string k, .int .u64 t] w fun e w' => e = .returned (.tuple #[.string (atS (f k) t).1, .bool (atS (f k) t).2]) ∧ Below w.heap.size w w' := by
  have c1 : w.cell? ⟨b, 1, none⟩ = some (pt tb 0) := hB.cell (k := 1) rfl
  have HB := Lib.hid hB; have HV := Lib.hid hV; have HF := Lib.hid hF; clear hB hV hF
  go_enter Try.func19, Try.ntmps19
  go_wp2_with fail
  refine (mzero_any b _ _ _ w HB.out).mono ?_
  rintro e w1 ⟨rfl, rfl⟩
  go_wp2_with fail
  refine (vget_any S _ tb K f k HV.out).mono ?_
  rintro e w2 ⟨v, bb, rfl, hr, -, rfl⟩
  have HS := Lib.hid (cellRow.sl hr); clear hr
  unfold slV at HS ⊢
  go_wp2_with fail
  refine (at_any _ _ t _ HS.out (HF.out.ok k)).mono ?_
  rintro e w3 ⟨rfl, hb⟩
  have HBB := Lib.hid hb; clear hb
  go_wp2
  go_ret2
  exact ⟨rfl, HBB.out⟩

set_option maxRecDepth 100000 in
set_option maxHeartbeats 3200000 in
theorem mput_blk (S : Nat → Prop) (b : Nat) (tb : Nat) (K : List ByteArray) (f : Fv) (la : Int) (ce : Int) (n : Nat) (ts : Int) (v : Value) (l : List OpT) (w : World) (hB : Blk w b 57 #[.bool true, pt tb 0, .int .u64 la, .int .i64 ce]) (hV : VkO S w tb K f) (hSb : ¬ S b) (hF : FOk f la n) (hn : n ≤ 800) (hla : 0 ≤ la ∧ la < 18446744073709551616) (hce : -100000000000 ≤ ce ∧ ce ≤ 100000000000) (hs : SliceOf opE 3 w v l) (hvS : l ≠ [] → ∀ k, v.ownBlock = some k → ¬ (k = b ∨ S k)) (hts : 0 ≤ ts ∧ ts < 18446744073709551616) (hK : K.length ≤ 70000) (hl : l.length ≤ 20) :
    Calls Try.prog 11 #[pt b 0, .int .u64 ts, v] w fun e w' => ∃ (S' : Nat → Prop) (K' : List ByteArray), e = .returned (.int .i64 (mvE la ts l)) ∧ Blk w' b 57 #[.bool true, pt tb 0, .int .u64 (mvLa la ts l), .int .i64 (mvCe la ts ce l)] ∧ VkO S' w' tb K' (mvF f la ts l) ∧ (∀ q, S' q → (q = b ∨ S q) ∨ w.heap.size ≤ q) ∧ ¬ S' b ∧ K'.length ≤ K.length + l.length ∧ But (fun q => q = b ∨ S q) w w' := by
 have hB0 := But.refl (fun q => q = b ∨ S q) w
 have hl_hB := hB.lt
 have hl_hs := sl_len hs
 have hinS : ∀ k, S k → (k = b ∨ S k) ∨ w.heap.size ≤ k := fun k hk => .inl (.inr hk)
 have hinb : (b = b ∨ S b) ∨ w.heap.size ≤ b := .inl (.inl rfl)
 refine co_enter (n := 77) Try.func11 rfl rfl rfl [(0, pt b 0), (1, .int .u64 ts), (2, v)] rfl (fun a h0 => ?_)
 refine co_seq ?_
 refine co_reg ?_
 refine pk0 (v := .int .i64 0) h0 rfl fun a1 h1 => ?_; clear h0
 refine pl_nil ?_
 refine co_then ?_
 refine co_seq ?_
 refine co_seq ?_
 refine co_reg ?_
 refine pk0 (v := pt b 0) h1 rfl fun a2 h2 => ?_; clear h1
 refine pw h2 rfl (op_call (args := #[pt b 0]) (R := fun res xw => res = .bool false ∧ w = xw) rfl rfl rfl (by kernel_rfl) (by kernel_rfl) (Try.call25 _ _) (mzero_any b (pt tb 0) (.int .u64 la) (.int .i64 ce) w hB) (by rintro e x ⟨rfl, rfl⟩; exact ⟨_, rfl, rfl, rfl⟩)) ?_; clear h2
 rintro _ _ a3 ⟨rfl, rfl⟩ h3
 refine pl_nil ?_
 refine co_then ?_
 refine co_false h3 rfl ?_
 refine wp_skip ?_
 refine co_then ?_
 refine co_seq ?_
 refine co_seq ?_
 refine co_reg ?_
 refine pk0 (v := .int .u64 ts) h3 rfl fun a5 h5 => ?_; clear h3
 refine pk0 (v := .bool (ts == 0)) h5 rfl fun a6 h6 => ?_; clear h5
 refine pl_nil ?_
 refine co_then ?_
 cases hc7 : (ts == 0)
 ·
  rw [hc7] at h6
  have hp8 : ¬ (ts = 0) := by first | simpa using hc7 | simpa [and_assoc] using hc7
  clear hc7
  refine co_false h6 rfl ?_
  refine wp_skip ?_
  refine co_then ?_
  refine co_seq ?_
  refine co_seq ?_
  refine co_reg ?_
  refine pk0 (v := .int .u64 ts) h6 rfl fun a9 h9 => ?_; clear h6
  refine pk0 (v := pt b 0) h9 rfl fun a10 h10 => ?_; clear h9
  refine pk0 (v := pt b 0) h10 rfl fun a11 h11 => ?_; clear h10
  refine pk0 (v := pt b 2) h11 rfl fun a12 h12 => ?_; clear h11
  refine pk (v := .int .u64 la) h12 rfl (rn_load1 rfl rfl Try.isAgg29 (hB.cell rfl)) fun a13 h13 => ?_; clear h12
  refine pk0 (v := .bool (decide (ts ≤ la))) h13 rfl fun a14 h14 => ?_; clear h13
  refine pl_nil ?_
  refine co_then ?_
  cases hc15 : (decide (ts ≤ la))
  ·
   rw [hc15] at h14
   have hp16 : ¬ (ts ≤ la) := of_decide_eq_false hc15
   clear hc15
   refine co_false h14 rfl ?_
   refine wp_skip ?_
   refine co_then ?_
   refine co_seq ?_
   refine co_seq ?_
   refine co_reg ?_
   refine pk0 (v := v) h14 rfl fun a17 h17 => ?_; clear h14
   refine pk (v := .agg #[.int .i64 0, .int .i64 1, v]) h17 rfl (by obtain ⟨_, _, _, hq⟩ := sl_form (sl_butN hs hB0 hvS); subst hq; kernel_rfl) fun a18 h18 => ?_; clear h17
   refine pw h18 rfl (op_call (args := #[.agg #[.int .i64 0, .int .i64 1, v]]) (R := fun res xw => res = .int .i64 (chkB 0 1 l) ∧ Below w.heap.size w xw) rfl rfl rfl (by kernel_rfl) (by kernel_rfl) (Try.call26 _ _) (opsCheck_any 0 1 v l w (sl_butN hs hB0 hvS)) (by rintro e x ⟨rfl, h⟩; exact ⟨_, rfl, rfl, h⟩)) ?_; clear h18
   rintro _ w20 a19 ⟨rfl, hb21⟩ h19
   have hz22 := hb21.size
   have ho23 := VkO.ofS hV
   refine pk0 (v := .int .i64 (chkB 0 1 l)) h19 rfl fun a24 h24 => ?_; clear h19
   refine pl_nil ?_
   refine co_then ?_
   refine co_seq ?_
   refine co_reg ?_
   refine pk0 (v := .int .i64 (chkB 0 1 l)) h24 rfl fun a25 h25 => ?_; clear h24
   refine pk0 (v := .bool ((chkB 0 1 l) != 0)) h25 rfl fun a26 h26 => ?_; clear h25
   refine pl_nil ?_
   refine co_then ?_
   have hB28 := fbU_call hB0 hb21
   cases hc27 : ((chkB 0 1 l) != 0)
   ·
    rw [hc27] at h26
    have hp29 : ¬ ((chkB 0 1 l) ≠ 0) := by first | simpa using hc27 | simpa [and_assoc] using hc27
    clear hc27
    refine co_false h26 rfl ?_
    refine wp_skip ?_
    refine co_then ?_
    refine co_seq ?_
    refine co_seq ?_
    refine co_reg ?_
    refine pk0 (v := v) h26 rfl fun a30 h30 => ?_; clear h26
    refine pk (v := .int .i64 ((l.length : Nat) : Int)) h30 rfl (rn_len rfl rfl Try.underlying32 (sl_butN hs hB28 hvS)) fun a31 h31 => ?_; clear h30
    refine pk0 (v := .int .i64 0) h31 rfl fun a32 h32 => ?_; clear h31
    refine pl_nil ?_
    refine co_then ?_
    refine wp_block ?_
    have hE0 : chkB 0 1 l = 0 := by omega
    have hup := chkB_up hE0
    have hlt9 : la < ts := by omega
    have hE9 : mvE la ts l = 0 := by rw [mvE_c (by omega) (by omega)]; exact hE0
    have hin9 := hinS
    have hof9 := hSb
    have h33 : Slots 77 [(0, pt b 0), (1, .int .u64 ts), (2, v), (30, v), (31, .int .i64 ((l.length : Nat) : Int)), (32, .int .i64 0)] _ := h32.sub ⟨rfl, rfl, rfl, rfl, rfl, rfl, trivial⟩; clear h32
    refine co_loop (fun mm a x => ∃ (k : Nat) (SA : Nat → Prop) (KA : List ByteArray) (ca : Int), Slots 77 [(0, pt b 0), (1, .int .u64 ts), (2, v), (30, v), (31, .int .i64 ((l.length : Nat) : Int)), (32, .int .i64 ((k : Nat) : Int))] a ∧ mm = l.length - k ∧ (k ≤ l.length) ∧ (∀ k, SA k → (k = b ∨ S k) ∨ w.heap.size ≤ k) ∧ (¬ SA b) ∧ (KA.length ≤ K.length + k) ∧ (ca = ce + k) ∧ Blk x b 57 #[.bool true, pt tb 0, .int .u64 la, .int .i64 ca] ∧ VkO SA x tb KA (putsF f ts (l.take k)) ∧ But (fun q => q = b ∨ S q) w x) (l.length - 0) ?_ ?_
    have hk34 := hB.below hb21
    have hO35 := VkO.gr hV (below_grown hb21) (fun k e => by cases e)
    · exact ⟨0, S, K, ce, h33.sub ⟨rfl, rfl, rfl, rfl, rfl, (slot_eq rfl (congrArg (Value.int .i64) (by first | rfl | omega))), trivial⟩, rfl, by omega, by exact hin9, by exact hof9, by omega, by omega, hk34, hO35, hB28⟩
    · rintro k36 a37 w38 ⟨k, SA, KA, ca, h37, rfl, hi39, hi40, hi41, hi42, hi43, hf44, hf45, hB46⟩
      have hz47 := hB46.size
      have hl48 := hf44.lt
      have hinA : ∀ k, SA k → (k = b ∨ S k) ∨ w.heap.size ≤ k := by assumption
      have hofA : ¬ SA b := by assumption
      refine co_seq ?_
      refine co_reg ?_
      refine pk0 (v := .bool (decide (((k : Nat) : Int) < ((l.length : Nat) : Int)))) h37 rfl fun a49 h49 => ?_; clear h37
      refine pl_nil ?_
      refine co_then ?_
      refine co_seq ?_
      cases hc50 : (decide (((k : Nat) : Int) < ((l.length : Nat) : Int)))
      ·
       rw [hc50] at h49
       have hp51 : ¬ (((k : Nat) : Int) < ((l.length : Nat) : Int)) := of_decide_eq_false hc50
       clear hc50
       refine co_false h49 rfl ?_
       refine wp_exit ?_
       refine co_thenX ?_
       refine co_thenX ?_
       refine co_blockX ?_
       refine co_then ?_
       refine co_seq ?_
       refine co_reg ?_
       refine pk0 (v := pt b 0) h49 rfl fun a52 h52 => ?_; clear h49
       refine pk0 (v := .int .u64 ts) h52 rfl fun a53 h53 => ?_; clear h52
       refine pk0 (v := pt b 0) h53 rfl fun a54 h54 => ?_; clear h53
       refine pk0 (v := pt b 2) h54 rfl fun a55 h55 => ?_; clear h54
       refine pwD h55 rfl (op_store1 rfl rfl rfl rfl Try.sizeOf29 hf44 rfl) ?_; clear h55
       rintro _ w57 a56 ⟨hk58, hz59, hg60⟩ h56
       have hk58' : Blk w57 b 57 #[.bool true, pt tb 0, .int .u64 ts, .int .i64 ca] := hk58; clear hk58
       have hz61 := hg60.size
       refine pl_nil ?_
       refine co_then ?_
       refine co_seq ?_
       refine co_reg ?_
       refine pk0 (v := .int .i64 0) h56 rfl fun a62 h62 => ?_; clear h56
       refine pl_nil ?_
       refine co_then ?_
       refine wp_ret ?_
       refine co_ret1 h62 rfl rfl ?_
       have hO63 := VkO.gr hf45 hg60 (fun k e => by cases e; exact hofA)
       have hB64 := fbU_at hB46 hg60 (fun hlt => by rcases hinb with hq | hq; exact hq; omega)
       have hk9 : l.take k = l := List.take_of_length_le (by omega)
       have hE := hE9
       have hQ1 := hO63
       have hQ2 := hk58'
       have hc9 : ca = ce + l.length := by omega
       rw [hk9] at hQ1; rw [hc9] at hQ2
       exact ⟨_, _, by rw [hE], by unfold mvLa mvCe; rw [if_pos hE, if_pos hE]; exact hQ2, by unfold mvF; rw [if_pos hE]; exact hQ1, hinA, hofA, by omega, hB64⟩
      ·
       rw [hc50] at h49
       have hp65 : ((k : Nat) : Int) < ((l.length : Nat) : Int) := of_decide_eq_true hc50
       clear hc50
       refine co_true h49 rfl ?_
       refine wp_skip ?_
       refine co_then ?_
       refine co_seq ?_
       refine wp_block ?_
       refine co_seq ?_
       refine co_reg ?_
       obtain ⟨y66, hy66⟩ : ∃ z, l[k]? = some z := ⟨_, List.getElem?_eq_getElem (by first | omega | (simp; done) | (simp; omega))⟩
       refine pk (v := pt (blkOf v) (offOf v + k * 3)) h49 rfl (rn_index rfl rfl rfl Try.underlying32 Try.sizeOf60 (sl_butN hs hB46 hvS) (by omega) (by first | omega | (simp; done) | (simp; omega))) fun a67 h67 => ?_; clear h49
       refine pk (v := .agg #[.string y66.1, .string y66.2.1, .bool y66.2.2]) h67 rfl (rn_loadN rfl rfl Try.underlying60 rfl (by kernel_rfl) (sl_at (sl_butN hs hB46 hvS) hy66)) fun a68 h68 => ?_; clear h67
       refine pw h68 rfl (op_new (v := fun N => pt N 0) (T := 60) (cs := #[.string (⟨#[]⟩), .string (⟨#[]⟩), .bool false]) (by kernel_rfl) (by kernel_rfl) (by kernel_rfl)) ?_; clear h68
       rintro _ w70 a69 ⟨N71, rfl, hN74, hz75, hk73, hg72⟩ h69
       have hz76 := hg72.size
       have ho77 := off_new (VkO.ofS hf45) hN74
       try dsimp only at h69
       refine pwD h69 rfl (op_storeN rfl rfl rfl (by kernel_rfl) (by kernel_rfl) hk73 rfl) ?_; clear h69
       rintro _ w79 a78 ⟨hk80, hz81, hg82⟩ h78
       have hk80' : Blk w79 N71 60 #[.string y66.1, .string y66.2.1, .bool y66.2.2] := hk80; clear hk80
       have hz83 := hg82.size
       refine pl_nil ?_
       refine co_then ?_
       refine co_seq ?_
       refine dr_gen (fun x => But (fun q => q = b ∨ S q) w x ∧ Blk x b 57 #[.bool true, pt tb 0, .int .u64 la, .int .i64 ca] ∧ Blk x N71 60 #[.string y66.1, .string y66.2.1, .bool y66.2.2]) (by kernel_rfl) (fun w84 hg85 => ?_) (fun w84 hg85 => ?_)
       ·
        have hz86 := hg85.size
        have hB87 := fbU_new hB46 hg72
        have hB88 := fbU_at hB87 hg82 (fun hlt => absurd hlt (by omega))
        have hB89 := fbU_new hB88 hg85
        have hk90 := hf44.kept hg72 (by simp)
        have hk91 := hk90.kept hg82 (by simp; omega)
        have hk92 := hk91.kept hg85 (by simp)
        have hk93 := hk80'.kept hg85 (by simp)
        exact ⟨hB89, hk92, hk93⟩
       have hz94 := hg85.size
       have hB95 := fbU_new hB46 hg72
       have hB96 := fbU_at hB95 hg82 (fun hlt => absurd hlt (by omega))
       have hB97 := fbU_new hB96 hg85
       have hk98 := hf44.kept hg72 (by simp)
       have hk99 := hk98.kept hg82 (by simp; omega)
       have hk100 := hk99.kept hg85 (by simp)
       have hk101 := hk80'.kept hg85 (by simp)
       refine dk0 0 (v := pt b 0) h78 rfl rfl ⟨hB97, hk100, hk101⟩ fun a102 h102 => ?_; clear h78
       refine dk0 1 (v := pt b 0) h102 rfl rfl ⟨hB97, hk100, hk101⟩ fun a103 h103 => ?_; clear h102
       refine dk0 2 (v := pt b 1) h103 rfl rfl ⟨hB97, hk100, hk101⟩ fun a104 h104 => ?_; clear h103
       refine dk 3 (v := pt tb 0) h104 rfl rfl ⟨hB97, hk100, hk101⟩ (fun x hx => (rn_load1 rfl rfl Try.isAgg55 (hx.2.1.cell rfl))) fun a105 h105 => ?_; clear h104
       refine dk0 4 (v := pt N71 0) h105 rfl rfl ⟨hB97, hk100, hk101⟩ fun a106 h106 => ?_; clear h105
       refine dk 5 (v := .string y66.1) h106 rfl rfl ⟨hB97, hk100, hk101⟩ (fun x hx => (rn_load1 rfl rfl Try.isAgg9 (hx.2.2.cell rfl))) fun a107 h107 => ?_; clear h106
       have hO110 := VkO.gr hf45 hg72 (fun k e => by cases e)
       have hO111 := VkO.gr hO110 hg82 (fun k e => by cases e; exact ho77)
       have hO112 := VkO.gr hO111 hg85 (fun k e => by cases e)
       refine d1 6 h107 rfl rfl (op_call (args := #[pt tb 0, .string y66.1]) (R := fun res xw => ∃ (v : SlT) (b : Bool), res = .tuple #[.slice v.a v.n v.c, .bool b] ∧ xw.ownsRow 0 71 3 (.slice v.a v.n v.c) ((putsF f ts (l.take k)) y66.1).length (((putsF f ts (l.take k)) y66.1).flatMap cellE) ∧ (∀ g, (Value.slice v.a v.n v.c).ownBlock = some g → SA g) ∧ w84 = xw) rfl rfl rfl (by kernel_rfl) (by kernel_rfl) (Try.call27 _ _) (vget_any SA w84 tb KA (putsF f ts (l.take k)) y66.1 hO112) (by rintro e x ⟨v, b, h0, h⟩; exact ⟨_, h0, v, b, rfl, h⟩)) ?_ ?_; clear h107
       ·
        rintro _ _ ⟨vv113, bb114, rfl, hr115, hi116, rfl⟩
        exact ⟨hB97, hk100, hk101⟩
       rintro _ _ a108 ⟨vv113, bb114, rfl, hr115, hi116, rfl⟩ h108
       refine dk0 7 (v := .tuple #[.slice vv113.a vv113.n vv113.c, .bool bb114]) h108 rfl rfl ⟨hB97, hk100, hk101⟩ fun a117 h117 => ?_; clear h108
       refine dk0 8 (v := .slice vv113.a vv113.n vv113.c) h117 rfl rfl ⟨hB97, hk100, hk101⟩ fun a118 h118 => ?_; clear h117
       refine dk0 9 (v := .bool bb114) h118 rfl rfl ⟨hB97, hk100, hk101⟩ fun a119 h119 => ?_; clear h118
       refine dk0 10 (v := .slice vv113.a vv113.n vv113.c) h119 rfl rfl ⟨hB97, hk100, hk101⟩ fun a120 h120 => ?_; clear h119
       refine dk0 11 (v := .bool bb114) h120 rfl rfl ⟨hB97, hk100, hk101⟩ fun a121 h121 => ?_; clear h120
       refine dr_done (by kernel_rfl) ?_
       refine co_then ?_
       refine co_seq ?_
       refine co_reg ?_
       refine pk0 (v := .slice vv113.a vv113.n vv113.c) h121 rfl fun a122 h122 => ?_; clear h121
       refine pk0 (v := .int .u64 ts) h122 rfl fun a123 h123 => ?_; clear h122
       refine pk0 (v := pt N71 1) h123 rfl fun a124 h124 => ?_; clear h123
       refine pk (v := .string y66.2.1) h124 rfl (rn_load1 rfl rfl Try.isAgg9 (hk101.cell rfl)) fun a125 h125 => ?_; clear h124
       refine pk0 (v := pt N71 2) h125 rfl fun a126 h126 => ?_; clear h125
       refine pk (v := .bool y66.2.2) h126 rfl (rn_load1 rfl rfl Try.isAgg4 (hk101.cell rfl)) fun a127 h127 => ?_; clear h126
       refine pk0 (v := .agg #[.int .u64 ts, .string y66.2.1, .bool y66.2.2]) h127 rfl fun a128 h128 => ?_; clear h127
       have hm131 := mv_now hF hup hy66 hlt9 hn
       refine pw h128 rfl (op_call (args := #[.slice vv113.a vv113.n vv113.c, .agg #[.int .u64 ts, .string y66.2.1, .bool y66.2.2]]) (R := fun res xw => ∃ v' : SlT, ∃ S' : Nat → Prop, res = .tuple #[.slice v'.a v'.n v'.c, .int .i64 0] ∧ VkO S' xw tb KA (putsF f ts (l.take k)) ∧ (xw.ownsRow 0 71 3 (.slice v'.a v'.n v'.c) (((putsF f ts (l.take k)) y66.1) ++ [(ts, y66.2.1, y66.2.2)]).length ((((putsF f ts (l.take k)) y66.1) ++ [(ts, y66.2.1, y66.2.2)]).flatMap cellE)) ∧ (∀ g, (Value.slice v'.a v'.n v'.c).ownBlock = some g → S' g) ∧ Grew SA S' w84 xw) rfl rfl rfl (by kernel_rfl) (by kernel_rfl) (Try.call28 _ _) (vvput_any SA w84 tb KA (putsF f ts (l.take k)) vv113 ((putsF f ts (l.take k)) y66.1) (ts, y66.2.1, y66.2.2) hO112 (row_sl hr115 cellE_len) hm131.1 (by show (0 : Int) < ts; have := hlt9; have := hla; omega) hm131.2) (by rintro e x ⟨v', S', h0, h⟩; exact ⟨_, h0, v', S', rfl, h⟩)) ?_; clear h128
       rintro _ w130 a129 ⟨v'132, S133, rfl, hO134, hq136, hq137, hx135⟩ h129
       have hB138 := fbU_foot hB97 hx135.but (fun i hi hq => by rcases hinA i hq with k | k; exact k; omega)
       have hz139 := hB138.size
       have hz140 := hx135.but.size
       have hin141 : ∀ q, S133 q → (q = b ∨ S q) ∨ w.heap.size ≤ q := fun q hq => by rcases hx135.sub q hq with k | k; exact hinA q k; exact .inr (by omega)
       refine pk0 (v := .tuple #[.slice v'132.a v'132.n v'132.c, .int .i64 0]) h129 rfl fun a142 h142 => ?_; clear h129
       refine pk0 (v := .slice v'132.a v'132.n v'132.c) h142 rfl fun a143 h143 => ?_; clear h142
       refine pk0 (v := .int .i64 0) h143 rfl fun a144 h144 => ?_; clear h143
       refine pk0 (v := .slice v'132.a v'132.n v'132.c) h144 rfl fun a145 h145 => ?_; clear h144
       refine pk0 (v := .int .i64 0) h145 rfl fun a146 h146 => ?_; clear h145
       refine pl_nil ?_
       refine co_then ?_
       refine co_seq ?_
       refine dr_gen (fun x => But (fun q => q = b ∨ S q) w x ∧ Blk x b 57 #[.bool true, pt tb 0, .int .u64 la, .int .i64 ca] ∧ Blk x N71 60 #[.string y66.1, .string y66.2.1, .bool y66.2.2]) (by kernel_rfl) (fun w147 hg148 => ?_) (fun w147 hg148 => ?_)
       ·
        have hz149 := hg148.size
        have hB150 := fbU_new hB138 hg148
        have hk151 := Blk.butS hk100 hx135.but hofA
        have hk152 := hk151.kept hg148 (by simp)
        have hk153 := Blk.butS hk101 hx135.but ho77
        have hk154 := hk153.kept hg148 (by simp)
        exact ⟨hB150, hk152, hk154⟩
       have hz155 := hg148.size
       have hB156 := fbU_new hB138 hg148
       have hk157 := Blk.butS hk100 hx135.but hofA
       have hk158 := hk157.kept hg148 (by simp)
       have hk159 := Blk.butS hk101 hx135.but ho77
       have hk160 := hk159.kept hg148 (by simp)
       refine dk0 0 (v := pt b 0) h146 rfl rfl ⟨hB156, hk158, hk160⟩ fun a161 h161 => ?_; clear h146
       refine dk0 1 (v := pt b 0) h161 rfl rfl ⟨hB156, hk158, hk160⟩ fun a162 h162 => ?_; clear h161
       refine dk0 2 (v := pt b 1) h162 rfl rfl ⟨hB156, hk158, hk160⟩ fun a163 h163 => ?_; clear h162
       refine dk 3 (v := pt tb 0) h163 rfl rfl ⟨hB156, hk158, hk160⟩ (fun x hx => (rn_load1 rfl rfl Try.isAgg55 (hx.2.1.cell rfl))) fun a164 h164 => ?_; clear h163
       refine dk0 4 (v := pt N71 0) h164 rfl rfl ⟨hB156, hk158, hk160⟩ fun a165 h165 => ?_; clear h164
       refine dk 5 (v := .string y66.1) h165 rfl rfl ⟨hB156, hk158, hk160⟩ (fun x hx => (rn_load1 rfl rfl Try.isAgg9 (hx.2.2.cell rfl))) fun a166 h166 => ?_; clear h165
       refine dk0 6 (v := .slice v'132.a v'132.n v'132.c) h166 rfl rfl ⟨hB156, hk158, hk160⟩ fun a167 h167 => ?_; clear h166
       have hO170 := VkO.gr hO134 hg148 (fun k e => by cases e)
       have hr171 := row_kept_new hq136 hg148
       refine d1 7 h167 rfl rfl (op_call (args := #[pt tb 0, .string y66.1, .slice v'132.a v'132.n v'132.c]) (R := fun res xw => ∃ b' : Bool, ∃ S' : Nat → Prop, res = .bool b' ∧ VkO S' xw tb (insY KA y66.1) (upd (putsF f ts (l.take k)) y66.1 (((putsF f ts (l.take k)) y66.1) ++ [(ts, y66.2.1, y66.2.2)])) ∧ Grew S133 S' w147 xw) rfl rfl rfl (by kernel_rfl) (by kernel_rfl) (Try.call29 _ _) (vput_any S133 w147 tb KA (putsF f ts (l.take k)) y66.1 v'132 (((putsF f ts (l.take k)) y66.1) ++ [(ts, y66.2.1, y66.2.2)]) hO170 hr171 hq137 (by simp) (by omega)) (by rintro e x ⟨b', S', h0, h⟩; exact ⟨_, h0, b', S', rfl, h⟩)) ?_ ?_; clear h167
       ·
        rintro _ w169 ⟨b'172, S173, rfl, hO174, hx175⟩
        have hB176 := fbU_foot hB156 hx175.but (fun i hi hq => by rcases hin141 i hq with k | k; exact k; omega)
        have hz177 := hB176.size
        have hz178 := hx175.but.size
        have hin179 : ∀ q, S173 q → (q = b ∨ S q) ∨ w.heap.size ≤ q := fun q hq => by rcases hx175.sub q hq with k | k; exact hin141 q k; exact .inr (by omega)
        have hl180 := len_insY KA y66.1
        have hk181 := Blk.butS hk158 hx175.but (Grew.off hx135 hofA hk100.lt)
        have hk182 := Blk.butS hk160 hx175.but (Grew.off hx135 ho77 hk101.lt)
        exact ⟨hB176, hk181, hk182⟩
       rintro _ w169 a168 ⟨b'172, S173, rfl, hO174, hx175⟩ h168
       have hB176 := fbU_foot hB156 hx175.but (fun i hi hq => by rcases hin141 i hq with k | k; exact k; omega)
       have hz177 := hB176.size
       have hz178 := hx175.but.size
       have hin179 : ∀ q, S173 q → (q = b ∨ S q) ∨ w.heap.size ≤ q := fun q hq => by rcases hx175.sub q hq with k | k; exact hin141 q k; exact .inr (by omega)
       have hl180 := len_insY KA y66.1
       refine dr_done (by kernel_rfl) ?_
       refine co_then ?_
       refine co_reg ?_
       refine pk0 (v := pt b 0) h168 rfl fun a181 h181 => ?_; clear h168
       refine pk0 (v := pt b 0) h181 rfl fun a182 h182 => ?_; clear h181
       refine pk0 (v := pt b 3) h182 rfl fun a183 h183 => ?_; clear h182
       have hk184 := Blk.butS hk158 hx175.but (Grew.off hx135 hofA hk100.lt)
       refine pk (v := .int .i64 ca) h183 rfl (rn_load1 rfl rfl Try.isAgg3 (hk184.cell rfl)) fun a185 h185 => ?_; clear h183
       refine pk (v := .int .i64 (ca + 1)) h185 rfl (rn_arith rfl rfl rfl rfl rfl rfl (IntWalk.i64_in _ (by omega))) fun a186 h186 => ?_; clear h185
       refine pk0 (v := pt b 0) h186 rfl fun a187 h187 => ?_; clear h186
       refine pk0 (v := pt b 3) h187 rfl fun a188 h188 => ?_; clear h187
       refine pwD h188 rfl (op_store1 rfl rfl rfl rfl Try.sizeOf3 hk184 rfl) ?_; clear h188
       rintro _ w190 a189 ⟨hk191, hz192, hg193⟩ h189
       have hk191' : Blk w190 b 57 #[.bool true, pt tb 0, .int .u64 la, .int .i64 (ca + 1)] := hk191; clear hk191
       have hz194 := hg193.size
       refine pl_nil ?_
       refine co_blockN ?_
       refine co_then ?_
       refine co_reg ?_
       refine pk (v := .int .i64 ((k + 1 : Nat) : Int)) h189 rfl (rn_arith' rfl rfl rfl rfl rfl rfl (IntWalk.i64_in _ (by omega)) (by omega)) fun a195 h195 => ?_; clear h189
       refine pk0 (v := .int .i64 ((k + 1 : Nat) : Int)) h195 rfl fun a196 h196 => ?_; clear h195
       refine pl_nil ?_
       refine co_then ?_
       refine ⟨(l.length - (k + 1)), by omega, ?_⟩
       have hin9 := hin179
       have hof9 := (Grew.off hx175 (Grew.off hx135 hofA hk100.lt) hk158.lt)
       have hO197 := VkO.gr hO174 hg193 (fun k e => by cases e; exact (Grew.off hx175 (Grew.off hx135 hofA hk100.lt) hk158.lt))
       have hB198 := fbU_at hB176 hg193 (fun hlt => by rcases hinb with hq | hq; exact hq; omega)
       exact ⟨k + 1, S173, (insY KA y66.1), (ca + 1), h196.sub ⟨rfl, rfl, rfl, rfl, rfl, rfl, trivial⟩, rfl, by omega, by exact hin9, by exact hof9, by omega, by omega, hk191', (by rw [mv_take (by assumption)]; exact hO197), hB198⟩
   ·
    rw [hc27] at h26
    have hp199 : (chkB 0 1 l) ≠ 0 := by first | simpa using hc27 | simpa [and_assoc] using hc27
    clear hc27
    refine co_true h26 rfl ?_
    refine co_seq ?_
    refine co_reg ?_
    refine pk0 (v := .int .i64 (chkB 0 1 l)) h26 rfl fun a200 h200 => ?_; clear h26
    refine pk0 (v := .int .i64 (chkB 0 1 l)) h200 rfl fun a201 h201 => ?_; clear h200
    refine pl_nil ?_
    refine co_then ?_
    refine wp_ret ?_
    refine co_thenR ?_
    refine co_ret1 h201 rfl rfl ?_
    have hk202 := hB.below hb21
    have hO203 := VkO.gr hV (below_grown hb21) (fun k e => by cases e)
    have hE : mvE la ts l = (chkB 0 1 l) := mvE_c (by omega) (by omega)
    have hz9 : ¬ mvE la ts l = 0 := by rw [hE]; omega
    exact ⟨_, _, by rw [hE], by unfold mvLa mvCe; rw [if_neg hz9, if_neg hz9]; exact hk202, by unfold mvF; rw [if_neg hz9]; exact hO203, hinS, hSb, by omega, hB28⟩
  ·
   rw [hc15] at h14
   have hp204 : ts ≤ la := of_decide_eq_true hc15
   clear hc15
   refine co_true h14 rfl ?_
   refine co_seq ?_
   refine co_reg ?_
   refine pk0 (v := .int .i64 18) h14 rfl fun a205 h205 => ?_; clear h14
   refine pl_nil ?_
   refine co_then ?_
   refine wp_ret ?_
   refine co_thenR ?_
   refine co_ret1 h205 rfl rfl ?_
   have hE : mvE la ts l = 18 := mvE_b (by omega) (by omega)
   have hz9 : ¬ mvE la ts l = 0 := by rw [hE]; omega
   exact ⟨_, _, by rw [hE], by unfold mvLa mvCe; rw [if_neg hz9, if_neg hz9]; exact hB, by unfold mvF; rw [if_neg hz9]; exact hV, hinS, hSb, by omega, hB0⟩
 ·
  rw [hc7] at h6
  have hp206 : ts = 0 := by first | simpa using hc7 | simpa [and_assoc] using hc7
  clear hc7
  refine co_true h6 rfl ?_
  refine co_seq ?_
  refine co_reg ?_
  refine pk0 (v := .int .i64 5) h6 rfl fun a207 h207 => ?_; clear h6
  refine pl_nil ?_
  refine co_then ?_
  refine wp_ret ?_
  refine co_thenR ?_
  refine co_ret1 h207 rfl rfl ?_
  have hE : mvE la ts l = 5 := mvE_a (by omega)
  have hz9 : ¬ mvE la ts l = 0 := by rw [hE]; omega
  exact ⟨_, _, by rw [hE], by unfold mvLa mvCe; rw [if_neg hz9, if_neg hz9]; exact hB, by unfold mvF; rw [if_neg hz9]; exact hV, hinS, hSb, by omega, hB0⟩
end Go.Proofs.Ytfjhlckklgeokaa
