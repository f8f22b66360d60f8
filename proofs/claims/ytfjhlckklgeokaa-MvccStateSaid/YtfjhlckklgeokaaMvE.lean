/- Package mvcc: Prune. Conditions: at most 70000 keys, 800 versions each. -/
import Derived.Test.YtfjhlckklgeokaaMvC
namespace Go.Proofs.Ytfjhlckklgeokaa
open Go.RowKit Go.PlainAid
set_option linter.unusedVariables false
set_option linter.unusedSimpArgs false


theorem vprune2_any (S : Nat → Prop) (w : World) (tb : Nat) (K : List ByteArray) (f : Fv) (v : SlT) (l : List CellT) (t : Int) (h : VkO S w tb K f) (hr : cellRow w (slV v) l) (hi : ∀ g, (slV v).ownBlock = some g → S g) (hw : ∀ c ∈ l, cellOk c) (hl : l.length ≤ 1000) :
    Calls Try.prog 33 #[slV v, .int .u64 t] w fun e w' => ∃ (ao : Option Addr) (nn cap : Nat) (S' : Nat → Prop), e = .returned (.slice ao nn cap) ∧ VkO S' w' tb K f ∧ cellRow w' (.slice ao nn cap) (l.drop (pruneN l t)) ∧ (∀ g, (Value.slice ao nn cap).ownBlock = some g → S' g) ∧ cellRow w' (slV v) l ∧ Grew S S' w w' := by
  refine (prune_row (slV v) l t w hr.sl hw hl).mono ?_
  rintro e w' ⟨u, rfl, hr1, hb⟩
  obtain ⟨ao, n, cap, rfl⟩ := own_sliceT hr1
  have hr0 : cellRow w' (.slice ao n cap) (l.drop (pruneN l t)) := own_low hr1 (Nat.zero_le _)
  refine ⟨ao, n, cap, _, rfl, (h.below hb).ext hr0, hr0, fun g hg => .inr hg, row_kept_new hr (below_grown hb), fun q hq => ?_, But.of_grown0 (below_grown hb) _⟩
  rcases hq with hq | hq
  · exact .inl hq
  · exact .inr (hr1.lt q hq).1
open Classical in
noncomputable def prF (f : Fv) (h : Int) (M : List ByteArray) : Fv := fun x => if x ∈ M then (f x).drop (pruneN (f x) h) else f x
section
variable {f g : Fv} {h la : Int} {K A B : List ByteArray} {k n : Nat} {y : ByteArray}
theorem prF_nil : prF f h (K.take 0) = f := by funext x; unfold prF; rw [if_neg (by simp)]
theorem prF_all (hK : KOf K f) : prF f h K = pruneF f h := by
  funext x; unfold prF pruneF
  by_cases hx : x ∈ K
  · rw [if_pos hx]
  · rw [if_neg hx]
    have e : f x = [] := by
      by_cases q : f x = []
      · exact q
      · exact absurd ((hK.mem x).2 q) hx
    rw [e, List.drop_nil]
theorem prF_at (hup : Kup K) (hy : K[k]? = some y) : prF f h (K.take k) y = f y := by
  unfold prF; rw [if_neg]
  intro hm
  obtain ⟨hk, e⟩ := List.getElem?_eq_some_iff.1 hy
  obtain ⟨j, hj, e3⟩ := List.mem_iff_getElem.1 hm
  rw [List.length_take] at hj
  rw [List.getElem_take] at e3
  exact klt_ne (List.pairwise_iff_getElem.1 hup j k (by omega) hk (by omega)) (e3.trans e.symm)
theorem prF_step (hup : Kup K) (hy : K[k]? = some y) : prF f h (K.take (k + 1)) = upd (prF f h (K.take k)) y ((prF f h (K.take k) y).drop (pruneN (prF f h (K.take k) y) h)) := by
  rw [prF_at hup hy]
  funext x
  by_cases e : x = y
  · subst e; rw [upd_eq]; unfold prF; rw [takeO_at hy, if_pos (by simp)]
  · rw [upd_ne e]; unfold prF; rw [takeO_at hy]
    by_cases hm : x ∈ K.take k
    · rw [if_pos hm, if_pos (by simp [hm])]
    · rw [if_neg hm, if_neg (by simp [hm, e])]
theorem prF_step0 (hup : Kup K) (hy : K[k]? = some y) (h0 : ((prF f h (K.take k) y).drop (pruneN (prF f h (K.take k) y) h)).length = 0) : prF f h (K.take (k + 1)) = upd (prF f h (K.take k)) y [] := by
  rw [prF_step hup hy, List.eq_nil_of_length_eq_zero h0]
theorem FOk.prF (hf : FOk f la n) (M : List ByteArray) : FOk (prF f h M) la n := by
  have hp := hf.prune h
  refine ⟨fun k => ?_, fun k => ?_, fun k => ?_, fun k => ?_⟩ <;> unfold Go.Proofs.Ytfjhlckklgeokaa.prF <;> split
  · exact hp.ok k
  · exact hf.ok k
  · exact hp.up k
  · exact hf.up k
  · exact hp.le k
  · exact hf.le k
  · exact hp.len k
  · exact hf.len k
open Classical in
theorem up_len (hA : Kup A) (hB : Kup B) (h : ∀ x ∈ A, x ∈ B) : A.length ≤ B.length := by
  have e : A = B.filter (fun x => decide (x ∈ A)) := up_ext (key := fun x => x) hA (hB.sublist List.filter_sublist) fun x => by
    rw [List.mem_filter]
    exact ⟨fun hx => ⟨h x hx, decide_eq_true hx⟩, fun hx => of_decide_eq_true hx.2⟩
  rw [e]; exact List.length_filter_le _ _
theorem prF_len (hK : KOf K f) (hA : KOf A (prF f h (K.take k))) : A.length ≤ K.length := up_len hA.up hK.up fun x hx => by
  have h1 := (hA.mem x).1 hx
  refine (hK.mem x).2 fun e => h1 ?_
  unfold prF; split <;> rw [e]
  exact List.drop_nil
theorem ne_len0 {α : Type} {l : List α} (h : ¬ ((l.length : Nat) : Int) = 0) : l ≠ [] := fun e => h (by rw [e]; rfl)
end
theorem inR_all (K : List ByteArray) : K.filter (inR ⟨#[]⟩ ⟨#[]⟩) = K := List.filter_eq_self.2 fun k _ => by
  have e0 : (⟨#[]⟩ : ByteArray).toList = [] := by rw [Go.ByteArray.toList_eq]
  unfold inR hit
  rw [e0]
  cases hk : klt k ⟨#[]⟩ with
  | false => rfl
  | true =>
    exfalso
    have : ∀ l : List UInt8, Op.bytesLess l [] = false := fun l => by cases l <;> rfl
    have e : Op.bytesLess k.toList (⟨#[]⟩ : ByteArray).toList = true := hk
    rw [e0, this] at e; cases e
theorem vkeys3_any (S : Nat → Prop) (w : World) (tb : Nat) (K : List ByteArray) (f : Fv) (h : VkO S w tb K f) (hK : K.length ≤ 80000) :
    Calls Try.prog 32 #[pt tb 0, .string ⟨#[]⟩, .string ⟨#[]⟩] w fun e w' => ∃ (ao : Option Addr) (nn cap : Nat), e = .returned (.slice ao nn cap) ∧ w'.ownsRow w.heap.size 9 1 (.slice ao nn cap) K.length (K.flatMap strE) ∧ Below w.heap.size w w' := by
  have := vkeys2_any S w tb K f ⟨#[]⟩ ⟨#[]⟩ h hK
  rw [inR_all] at this
  exact this

set_option maxRecDepth 100000 in
set_option maxHeartbeats 3200000 in
theorem mprune_blk (S : Nat → Prop) (b : Nat) (tb : Nat) (K : List ByteArray) (f : Fv) (la : Int) (ce : Int) (n : Nat) (h : Int) (w : World) (hB : Blk w b 57 #[.bool true, pt tb 0, .int .u64 la, .int .i64 ce]) (hV : VkO S w tb K f) (hSb : ¬ S b) (hF : FOk f la n) (hn : n ≤ 800) (hla : 0 ≤ la ∧ la < 18446744073709551616) (hce : -100000000000 ≤ ce ∧ ce ≤ 100000000000) (hh : 0 ≤ h ∧ h < 18446744073709551616) (hK : K.length ≤ 70000) :
    Calls Try.prog 13 #[pt b 0, .int .u64 h] w fun e w' => ∃ (S' : Nat → Prop) (K' : List ByteArray) (g' : Int), e = .returned (.int .i64 g') ∧ Blk w' b 57 #[.bool true, pt tb 0, .int .u64 la, .int .i64 (ce - g')] ∧ VkO S' w' tb K' (pruneF f h) ∧ (∀ q, S' q → (q = b ∨ S q) ∨ w.heap.size ≤ q) ∧ ¬ S' b ∧ K'.length ≤ K.length ∧ (0 ≤ g' ∧ g' ≤ 100000000) ∧ But (fun q => q = b ∨ S q) w w' := by
 have hB0 := But.refl (fun q => q = b ∨ S q) w
 have hl_hB := hB.lt
 have hinS : ∀ k, S k → (k = b ∨ S k) ∨ w.heap.size ≤ k := fun k hk => .inl (.inr hk)
 have hinb : (b = b ∨ S b) ∨ w.heap.size ≤ b := .inl (.inl rfl)
 have hKup := (VkO.kof hV).up
 refine co_enter (n := 68) Try.func13 rfl rfl rfl [(0, pt b 0), (1, .int .u64 h)] rfl (fun a h0 => ?_)
 refine co_seq ?_
 refine co_reg ?_
 refine pk0 (v := .int .i64 0) h0 rfl fun a1 h1 => ?_; clear h0
 refine pl_nil ?_
 refine co_then ?_
 refine co_seq ?_
 refine co_seq ?_
 refine co_reg ?_
 refine pk0 (v := pt b 0) h1 rfl fun a2 h2 => ?_; clear h1
 refine pw h2 rfl (op_call (args := #[pt b 0]) (R := fun res xw => res = .bool false ∧ w = xw) rfl rfl rfl (by kernel_rfl) (by kernel_rfl) (Try.call25 _ _) (mzero_any b (pt tb 0) (.int .u64 la) (.int .i64 ce) w hB) (by rintro e x ⟨rfl, rfl⟩; exact ⟨_, rfl, rfl, rfl⟩)) ?_; clear h2
 rintro _ _ a3 ⟨rfl, rfl⟩ h3
 refine pl_nil ?_
 refine co_then ?_
 refine co_false h3 rfl ?_
 refine wp_skip ?_
 refine co_then ?_
 refine co_seq ?_
 refine co_reg ?_
 refine pk0 (v := .int .i64 0) h3 rfl fun a5 h5 => ?_; clear h3
 refine pl_nil ?_
 refine co_then ?_
 refine co_seq ?_
 refine co_seq ?_
 refine co_reg ?_
 refine pk0 (v := pt b 0) h5 rfl fun a6 h6 => ?_; clear h5
 refine pk0 (v := pt b 0) h6 rfl fun a7 h7 => ?_; clear h6
 refine pk0 (v := pt b 1) h7 rfl fun a8 h8 => ?_; clear h7
 refine pk (v := pt tb 0) h8 rfl (rn_load1 rfl rfl Try.isAgg55 (hB.cell rfl)) fun a9 h9 => ?_; clear h8
 have ho17 := VkO.ofS hV
 refine pw h9 rfl (op_call (args := #[pt tb 0, .string (⟨#[]⟩), .string (⟨#[]⟩)]) (R := fun res xw => ∃ (ao : Option Addr) (nn cap : Nat), res = .slice ao nn cap ∧ xw.ownsRow w.heap.size 9 1 (.slice ao nn cap) K.length (K.flatMap strE) ∧ Below w.heap.size w xw) rfl rfl rfl (by kernel_rfl) (by kernel_rfl) (Try.call32 _ _) (vkeys3_any S w tb K f hV (by omega)) (by rintro e x ⟨ao, nn, cap, h0, h⟩; exact ⟨_, h0, ao, nn, cap, rfl, h⟩)) ?_; clear h9
 rintro _ w11 a10 ⟨ao12, nn13, cp14, rfl, hr15, hb16⟩ h10
 have hz18 := hb16.size
 have ho19 := VkO.ofS hV
 have hl20 : K.length ≤ K.length := Nat.le_refl _
 refine pk (v := .int .i64 ((K.length : Nat) : Int)) h10 rfl (rn_lenOwn rfl rfl Try.underlying75 hr15) fun a21 h21 => ?_; clear h10
 refine pk0 (v := .int .i64 0) h21 rfl fun a22 h22 => ?_; clear h21
 refine pl_nil ?_
 refine co_then ?_
 refine wp_block ?_
 have hin9 := hinS
 have hof9 := hSb
 have hor9 : ∀ i, (Value.slice ao12 nn13 cp14).ownBlock = some i → ¬ S i := (offR_row ho19 hr15 (Nat.le_refl _))
 have hkl9 := Nat.le_refl K.length
 have h23 : Slots 68 [(0, pt b 0), (1, .int .u64 h), (5, .int .i64 0), (17, .slice ao12 nn13 cp14), (18, .int .i64 ((K.length : Nat) : Int)), (19, .int .i64 0)] _ := h22.sub ⟨rfl, rfl, rfl, rfl, rfl, rfl, trivial⟩; clear h22
 refine co_loop (fun mm a x => ∃ (k : Nat) (SA : Nat → Prop) (KA : List ByteArray) (ga : Int), Slots 68 [(0, pt b 0), (1, .int .u64 h), (5, .int .i64 ga), (17, .slice ao12 nn13 cp14), (18, .int .i64 ((K.length : Nat) : Int)), (19, .int .i64 ((k : Nat) : Int))] a ∧ mm = K.length - k ∧ (k ≤ K.length) ∧ (∀ k, SA k → (k = b ∨ S k) ∨ w.heap.size ≤ k) ∧ (¬ SA b) ∧ (∀ i, (Value.slice ao12 nn13 cp14).ownBlock = some i → ¬ SA i) ∧ (KA.length ≤ K.length) ∧ (0 ≤ ga ∧ ga ≤ 1000 * k) ∧ Blk x b 57 #[.bool true, pt tb 0, .int .u64 la, .int .i64 ce] ∧ VkO SA x tb KA (prF f h (K.take k)) ∧ x.ownsRow w.heap.size 9 1 (.slice ao12 nn13 cp14) K.length (K.flatMap strE) ∧ But (fun q => q = b ∨ S q) w x) (K.length - 0) ?_ ?_
 have hk24 := hB.below hb16
 have hO25 := VkO.gr hV (below_grown hb16) (fun k e => by cases e)
 have hB26 := fbU_call hB0 hb16
 · exact ⟨0, S, K, 0, h23.sub ⟨rfl, rfl, rfl, rfl, rfl, (slot_eq rfl (congrArg (Value.int .i64) (by first | rfl | omega))), trivial⟩, rfl, by omega, by exact hin9, by exact hof9, by exact hor9, by exact hkl9, by omega, hk24, (by rw [prF_nil]; exact hO25), hr15, hB26⟩
 · rintro k27 a28 w29 ⟨k, SA, KA, ga, h28, rfl, hi30, hi31, hi32, hi33, hi34, hi35, hf36, hf37, hf38, hB39⟩
   have hz40 := hB39.size
   have hl41 := hf36.lt
   have hinA : ∀ k, SA k → (k = b ∨ S k) ∨ w.heap.size ≤ k := by assumption
   have hofA : ¬ SA b := by assumption
   have horA : ∀ i, (Value.slice ao12 nn13 cp14).ownBlock = some i → ¬ SA i := by assumption
   have hFA := FOk.prF (h := h) hF (K.take k)
   refine co_seq ?_
   refine co_reg ?_
   refine pk0 (v := .bool (decide (((k : Nat) : Int) < ((K.length : Nat) : Int)))) h28 rfl fun a42 h42 => ?_; clear h28
   refine pl_nil ?_
   refine co_then ?_
   refine co_seq ?_
   cases hc43 : (decide (((k : Nat) : Int) < ((K.length : Nat) : Int)))
   ·
    rw [hc43] at h42
    have hp44 : ¬ (((k : Nat) : Int) < ((K.length : Nat) : Int)) := of_decide_eq_false hc43
    clear hc43
    refine co_false h42 rfl ?_
    refine wp_exit ?_
    refine co_thenX ?_
    refine co_thenX ?_
    refine co_blockX ?_
    refine co_then ?_
    refine co_seq ?_
    refine co_reg ?_
    refine pk0 (v := pt b 0) h42 rfl fun a45 h45 => ?_; clear h42
    refine pk0 (v := pt b 0) h45 rfl fun a46 h46 => ?_; clear h45
    refine pk0 (v := pt b 3) h46 rfl fun a47 h47 => ?_; clear h46
    refine pk (v := .int .i64 ce) h47 rfl (rn_load1 rfl rfl Try.isAgg3 (hf36.cell rfl)) fun a48 h48 => ?_; clear h47
    refine pk0 (v := .int .i64 ga) h48 rfl fun a49 h49 => ?_; clear h48
    refine pk (v := .int .i64 (ce - ga)) h49 rfl (rn_arith rfl rfl rfl rfl rfl rfl (IntWalk.i64_in _ (by omega))) fun a50 h50 => ?_; clear h49
    refine pk0 (v := pt b 0) h50 rfl fun a51 h51 => ?_; clear h50
    refine pk0 (v := pt b 3) h51 rfl fun a52 h52 => ?_; clear h51
    refine pwD h52 rfl (op_store1 rfl rfl rfl rfl Try.sizeOf3 hf36 rfl) ?_; clear h52
    rintro _ w54 a53 ⟨hk55, hz56, hg57⟩ h53
    have hk55' : Blk w54 b 57 #[.bool true, pt tb 0, .int .u64 la, .int .i64 (ce - ga)] := hk55; clear hk55
    have hz58 := hg57.size
    refine pl_nil ?_
    refine co_then ?_
    refine co_seq ?_
    refine co_reg ?_
    refine pk0 (v := .int .i64 ga) h53 rfl fun a59 h59 => ?_; clear h53
    refine pk0 (v := .int .i64 ga) h59 rfl fun a60 h60 => ?_; clear h59
    refine pl_nil ?_
    refine co_then ?_
    refine wp_ret ?_
    refine co_ret1 h60 rfl rfl ?_
    have hO61 := VkO.gr hf37 hg57 (fun k e => by cases e; exact hofA)
    have hB62 := fbU_at hB39 hg57 (fun hlt => by rcases hinb with hq | hq; exact hq; omega)
    have hk9 : K.take k = K := List.take_of_length_le (by omega)
    have hQ1 := hO61
    rw [hk9, prF_all (VkO.kof hV)] at hQ1
    exact ⟨_, _, _, rfl, hk55', hQ1, hinA, hofA, by omega, by omega, hB62⟩
   ·
    rw [hc43] at h42
    have hp63 : ((k : Nat) : Int) < ((K.length : Nat) : Int) := of_decide_eq_true hc43
    clear hc43
    refine co_true h42 rfl ?_
    refine wp_skip ?_
    refine co_then ?_
    refine co_seq ?_
    refine wp_block ?_
    refine co_seq ?_
    refine co_reg ?_
    obtain ⟨y64, hy64⟩ : ∃ z, K[k]? = some z := ⟨_, List.getElem?_eq_getElem (by first | omega | (simp; done) | (simp; omega))⟩
    refine pk (v := pt (blkOf (.slice ao12 nn13 cp14)) (offOf (.slice ao12 nn13 cp14) + k * 1)) h42 rfl (rn_index rfl rfl rfl Try.underlying75 Try.sizeOf9 (row_sl hf38 strE_len) (by omega) (by first | omega | (simp; done) | (simp; omega))) fun a65 h65 => ?_; clear h42
    refine pk (v := .string y64) h65 rfl (rn_load1 rfl rfl Try.isAgg9 ((sl_at (row_sl hf38 strE_len) hy64) 0 _ rfl)) fun a66 h66 => ?_; clear h65
    refine pk0 (v := .string y64) h66 rfl fun a67 h67 => ?_; clear h66
    refine pl_nil ?_
    refine co_then ?_
    refine co_seq ?_
    refine co_reg ?_
    refine pk0 (v := pt b 0) h67 rfl fun a68 h68 => ?_; clear h67
    refine pk0 (v := pt b 0) h68 rfl fun a69 h69 => ?_; clear h68
    refine pk0 (v := pt b 1) h69 rfl fun a70 h70 => ?_; clear h69
    refine pk (v := pt tb 0) h70 rfl (rn_load1 rfl rfl Try.isAgg55 (hf36.cell rfl)) fun a71 h71 => ?_; clear h70
    refine pk0 (v := .string y64) h71 rfl fun a72 h72 => ?_; clear h71
    refine pw h72 rfl (op_call (args := #[pt tb 0, .string y64]) (R := fun res xw => ∃ (v : SlT) (b : Bool), res = .tuple #[.slice v.a v.n v.c, .bool b] ∧ xw.ownsRow 0 71 3 (.slice v.a v.n v.c) ((prF f h (K.take k)) y64).length (((prF f h (K.take k)) y64).flatMap cellE) ∧ (∀ g, (Value.slice v.a v.n v.c).ownBlock = some g → SA g) ∧ w29 = xw) rfl rfl rfl (by kernel_rfl) (by kernel_rfl) (Try.call27 _ _) (vget_any SA w29 tb KA (prF f h (K.take k)) y64 hf37) (by rintro e x ⟨v, b, h0, h⟩; exact ⟨_, h0, v, b, rfl, h⟩)) ?_; clear h72
    rintro _ _ a73 ⟨vv75, bb76, rfl, hr77, hi78, rfl⟩ h73
    refine pk0 (v := .tuple #[.slice vv75.a vv75.n vv75.c, .bool bb76]) h73 rfl fun a79 h79 => ?_; clear h73
    refine pk0 (v := .slice vv75.a vv75.n vv75.c) h79 rfl fun a80 h80 => ?_; clear h79
    refine pk0 (v := .bool bb76) h80 rfl fun a81 h81 => ?_; clear h80
    refine pk0 (v := .slice vv75.a vv75.n vv75.c) h81 rfl fun a82 h82 => ?_; clear h81
    refine pk0 (v := .bool bb76) h82 rfl fun a83 h83 => ?_; clear h82
    refine pl_nil ?_
    refine co_then ?_
    refine co_seq ?_
    refine co_reg ?_
    refine pk0 (v := .slice vv75.a vv75.n vv75.c) h83 rfl fun a84 h84 => ?_; clear h83
    refine pk0 (v := .int .u64 h) h84 rfl fun a85 h85 => ?_; clear h84
    have hl88 := hFA.len y64; have hl88d : (((prF f h (K.take k)) y64).drop (pruneN ((prF f h (K.take k)) y64) h)).length ≤ ((prF f h (K.take k)) y64).length := by rw [List.length_drop]; omega
    refine pw h85 rfl (op_call (args := #[.slice vv75.a vv75.n vv75.c, .int .u64 h]) (R := fun res xw => ∃ v' : SlT, ∃ S' : Nat → Prop, res = .slice v'.a v'.n v'.c ∧ VkO S' xw tb KA (prF f h (K.take k)) ∧ (xw.ownsRow 0 71 3 (.slice v'.a v'.n v'.c) (((prF f h (K.take k)) y64).drop (pruneN ((prF f h (K.take k)) y64) h)).length ((((prF f h (K.take k)) y64).drop (pruneN ((prF f h (K.take k)) y64) h)).flatMap cellE)) ∧ (∀ g, (Value.slice v'.a v'.n v'.c).ownBlock = some g → S' g) ∧ (xw.ownsRow 0 71 3 (.slice vv75.a vv75.n vv75.c) ((prF f h (K.take k)) y64).length (((prF f h (K.take k)) y64).flatMap cellE)) ∧ Grew SA S' w29 xw) rfl rfl rfl (by kernel_rfl) (by kernel_rfl) (Try.call33 _ _) (vprune2_any SA w29 tb KA (prF f h (K.take k)) vv75 ((prF f h (K.take k)) y64) h hf37 hr77 hi78 (hFA.ok y64) (by omega)) (by rintro e x ⟨ao, nn, cap, S', h0, h⟩; exact ⟨_, h0, ⟨ao, nn, cap⟩, S', rfl, h⟩)) ?_; clear h85
    rintro _ w87 a86 ⟨v'89, S90, rfl, hO91, hq93, hq94, hq95, hx92⟩ h86
    have hB96 := fbU_foot hB39 hx92.but (fun i hi hq => by rcases hinA i hq with k | k; exact k; omega)
    have hz97 := hB96.size
    have hz98 := hx92.but.size
    have hin99 : ∀ q, S90 q → (q = b ∨ S q) ∨ w.heap.size ≤ q := fun q hq => by rcases hx92.sub q hq with k | k; exact hinA q k; exact .inr (by omega)
    obtain ⟨m100, hm100⟩ : ∃ z : Nat, z = ((prF f h (K.take k)) y64).length := ⟨_, rfl⟩; rw [← hm100] at hq95
    obtain ⟨m101, hm101⟩ : ∃ z : Nat, z = (((prF f h (K.take k)) y64).drop (pruneN ((prF f h (K.take k)) y64) h)).length := ⟨_, rfl⟩; rw [← hm101] at hq93
    have hl102 : m100 ≤ n := by omega
    have hl103 : m101 ≤ m100 := by omega
    refine pk0 (v := .slice v'89.a v'89.n v'89.c) h86 rfl fun a104 h104 => ?_; clear h86
    refine pl_nil ?_
    refine co_then ?_
    refine co_seq ?_
    refine co_reg ?_
    refine pk0 (v := .int .i64 ga) h104 rfl fun a105 h105 => ?_; clear h104
    refine pk0 (v := .slice vv75.a vv75.n vv75.c) h105 rfl fun a106 h106 => ?_; clear h105
    refine pk (v := .int .i64 ((m100 : Nat) : Int)) h106 rfl (rn_lenOwn rfl rfl Try.underlying62 hq95) fun a107 h107 => ?_; clear h106
    refine pk0 (v := .slice v'89.a v'89.n v'89.c) h107 rfl fun a108 h108 => ?_; clear h107
    refine pk (v := .int .i64 ((m101 : Nat) : Int)) h108 rfl (rn_lenOwn rfl rfl Try.underlying62 hq93) fun a109 h109 => ?_; clear h108
    refine pk (v := .int .i64 (((m100 : Nat) : Int) - ((m101 : Nat) : Int))) h109 rfl (rn_arith rfl rfl rfl rfl rfl rfl (IntWalk.i64_in _ (by omega))) fun a110 h110 => ?_; clear h109
    refine pk (v := .int .i64 (ga + (((m100 : Nat) : Int) - ((m101 : Nat) : Int)))) h110 rfl (rn_arith rfl rfl rfl rfl rfl rfl (IntWalk.i64_in _ (by omega))) fun a111 h111 => ?_; clear h110
    refine pk0 (v := .int .i64 (ga + (((m100 : Nat) : Int) - ((m101 : Nat) : Int)))) h111 rfl fun a112 h112 => ?_; clear h111
    refine pl_nil ?_
    refine co_then ?_
    refine co_seq ?_
    refine co_reg ?_
    refine pk0 (v := .slice v'89.a v'89.n v'89.c) h112 rfl fun a113 h113 => ?_; clear h112
    refine pk (v := .int .i64 ((m101 : Nat) : Int)) h113 rfl (rn_lenOwn rfl rfl Try.underlying62 hq93) fun a114 h114 => ?_; clear h113
    refine pk0 (v := .bool (((m101 : Nat) : Int) == 0)) h114 rfl fun a115 h115 => ?_; clear h114
    refine pl_nil ?_
    refine co_then ?_
    cases hc116 : (((m101 : Nat) : Int) == 0)
    ·
     rw [hc116] at h115
     have hp117 : ¬ (((m101 : Nat) : Int) = 0) := by first | simpa using hc116 | simpa [and_assoc] using hc116
     clear hc116
     refine co_false h115 rfl ?_
     refine co_reg ?_
     refine pk0 (v := pt b 0) h115 rfl fun a118 h118 => ?_; clear h115
     refine pk0 (v := pt b 0) h118 rfl fun a119 h119 => ?_; clear h118
     refine pk0 (v := pt b 1) h119 rfl fun a120 h120 => ?_; clear h119
     have hk121 := Blk.butS hf36 hx92.but hofA
     refine pk (v := pt tb 0) h120 rfl (rn_load1 rfl rfl Try.isAgg55 (hk121.cell rfl)) fun a122 h122 => ?_; clear h120
     refine pk0 (v := .string y64) h122 rfl fun a123 h123 => ?_; clear h122
     refine pk0 (v := .slice v'89.a v'89.n v'89.c) h123 rfl fun a124 h124 => ?_; clear h123
     refine pw h124 rfl (op_call (args := #[pt tb 0, .string y64, .slice v'89.a v'89.n v'89.c]) (R := fun res xw => ∃ b' : Bool, ∃ S' : Nat → Prop, res = .bool b' ∧ VkO S' xw tb (insY KA y64) (upd (prF f h (K.take k)) y64 (((prF f h (K.take k)) y64).drop (pruneN ((prF f h (K.take k)) y64) h))) ∧ Grew S90 S' w87 xw) rfl rfl rfl (by kernel_rfl) (by kernel_rfl) (Try.call29 _ _) (vput_any S90 w87 tb KA (prF f h (K.take k)) y64 v'89 (((prF f h (K.take k)) y64).drop (pruneN ((prF f h (K.take k)) y64) h)) hO91 (by have hz9 := hq93; rw [hm101] at hz9; exact hz9) hq94 (ne_len0 (by omega)) (by omega)) (by rintro e x ⟨b', S', h0, h⟩; exact ⟨_, h0, b', S', rfl, h⟩)) ?_; clear h124
     rintro _ w126 a125 ⟨b'127, S128, rfl, hO129, hx130⟩ h125
     have hr131 := own_butS hf38 hx92.but horA
     have hB132 := fbU_foot hB96 hx130.but (fun i hi hq => by rcases hin99 i hq with k | k; exact k; omega)
     have hz133 := hB132.size
     have hz134 := hx130.but.size
     have hin135 : ∀ q, S128 q → (q = b ∨ S q) ∨ w.heap.size ≤ q := fun q hq => by rcases hx130.sub q hq with k | k; exact hin99 q k; exact .inr (by omega)
     have hl136 := len_insY KA y64
     refine pl_nil ?_
     refine co_blockN ?_
     refine co_then ?_
     refine co_reg ?_
     refine pk (v := .int .i64 ((k + 1 : Nat) : Int)) h125 rfl (rn_arith' rfl rfl rfl rfl rfl rfl (IntWalk.i64_in _ (by omega)) (by omega)) fun a137 h137 => ?_; clear h125
     refine pk0 (v := .int .i64 ((k + 1 : Nat) : Int)) h137 rfl fun a138 h138 => ?_; clear h137
     refine pl_nil ?_
     refine co_then ?_
     refine ⟨(K.length - (k + 1)), by omega, ?_⟩
     have hin9 := hin135
     have hof9 := (Grew.off hx130 (Grew.off hx92 hofA hf36.lt) hk121.lt)
     have hor9 : ∀ i, (Value.slice ao12 nn13 cp14).ownBlock = some i → ¬ S128 i := (Grew.offR hx130 hr131 (Grew.offR hx92 hf38 horA))
     have hkl9 := prF_len (VkO.kof hV) (VkO.kof (show VkO _ _ _ _ (prF f h (K.take (k + 1))) from by rw [prF_step hKup (by assumption)]; exact hO129))
     have hk139 := Blk.butS hk121 hx130.but (Grew.off hx92 hofA hf36.lt)
     have hr140 := own_butS hr131 hx130.but (Grew.offR hx92 hf38 horA)
     exact ⟨k + 1, S128, (insY KA y64), (ga + (((m100 : Nat) : Int) - ((m101 : Nat) : Int))), h138.sub ⟨rfl, rfl, rfl, rfl, rfl, rfl, trivial⟩, rfl, by omega, by exact hin9, by exact hof9, by exact hor9, by exact hkl9, by omega, hk139, (show VkO _ _ _ _ (prF f h (K.take (k + 1))) from by rw [prF_step hKup (by assumption)]; exact hO129), hr140, hB132⟩
    ·
     rw [hc116] at h115
     have hp141 : ((m101 : Nat) : Int) = 0 := by first | simpa using hc116 | simpa [and_assoc] using hc116
     clear hc116
     refine co_true h115 rfl ?_
     refine co_reg ?_
     refine pk0 (v := pt b 0) h115 rfl fun a142 h142 => ?_; clear h115
     refine pk0 (v := pt b 0) h142 rfl fun a143 h143 => ?_; clear h142
     refine pk0 (v := pt b 1) h143 rfl fun a144 h144 => ?_; clear h143
     have hk145 := Blk.butS hf36 hx92.but hofA
     refine pk (v := pt tb 0) h144 rfl (rn_load1 rfl rfl Try.isAgg55 (hk145.cell rfl)) fun a146 h146 => ?_; clear h144
     refine pk0 (v := .string y64) h146 rfl fun a147 h147 => ?_; clear h146
     refine pw h147 rfl (op_call (args := #[pt tb 0, .string y64]) (R := fun res xw => ∃ b' : Bool, ∃ S' : Nat → Prop, res = .bool b' ∧ VkO S' xw tb (delY KA y64) (upd (prF f h (K.take k)) y64 []) ∧ Grew S90 S' w87 xw) rfl rfl rfl (by kernel_rfl) (by kernel_rfl) (Try.call34 _ _) (vdel_any S90 w87 tb KA (prF f h (K.take k)) y64 hO91 (by omega)) (by rintro e x ⟨b', S', h0, h⟩; exact ⟨_, h0, b', S', rfl, h⟩)) ?_; clear h147
     rintro _ w149 a148 ⟨b'150, S151, rfl, hO152, hx153⟩ h148
     have hr154 := own_butS hf38 hx92.but horA
     have hB155 := fbU_foot hB96 hx153.but (fun i hi hq => by rcases hin99 i hq with k | k; exact k; omega)
     have hz156 := hB155.size
     have hz157 := hx153.but.size
     have hin158 : ∀ q, S151 q → (q = b ∨ S q) ∨ w.heap.size ≤ q := fun q hq => by rcases hx153.sub q hq with k | k; exact hin99 q k; exact .inr (by omega)
     refine pl_nil ?_
     refine co_blockN ?_
     refine co_then ?_
     refine co_reg ?_
     refine pk (v := .int .i64 ((k + 1 : Nat) : Int)) h148 rfl (rn_arith' rfl rfl rfl rfl rfl rfl (IntWalk.i64_in _ (by omega)) (by omega)) fun a159 h159 => ?_; clear h148
     refine pk0 (v := .int .i64 ((k + 1 : Nat) : Int)) h159 rfl fun a160 h160 => ?_; clear h159
     refine pl_nil ?_
     refine co_then ?_
     refine ⟨(K.length - (k + 1)), by omega, ?_⟩
     have hin9 := hin158
     have hof9 := (Grew.off hx153 (Grew.off hx92 hofA hf36.lt) hk145.lt)
     have hor9 : ∀ i, (Value.slice ao12 nn13 cp14).ownBlock = some i → ¬ S151 i := (Grew.offR hx153 hr154 (Grew.offR hx92 hf38 horA))
     have hkl9 := prF_len (VkO.kof hV) (VkO.kof (show VkO _ _ _ _ (prF f h (K.take (k + 1))) from by rw [prF_step0 hKup (by assumption) (by omega)]; exact hO152))
     have hk161 := Blk.butS hk145 hx153.but (Grew.off hx92 hofA hf36.lt)
     have hr162 := own_butS hr154 hx153.but (Grew.offR hx92 hf38 horA)
     exact ⟨k + 1, S151, (delY KA y64), (ga + (((m100 : Nat) : Int) - ((m101 : Nat) : Int))), h160.sub ⟨rfl, rfl, rfl, rfl, rfl, rfl, trivial⟩, rfl, by omega, by exact hin9, by exact hof9, by exact hor9, by exact hkl9, by omega, hk161, (show VkO _ _ _ _ (prF f h (K.take (k + 1))) from by rw [prF_step0 hKup (by assumption) (by omega)]; exact hO152), hr162, hB155⟩
end Go.Proofs.Ytfjhlckklgeokaa
