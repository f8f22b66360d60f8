/- Package mvcc: Prune. Conditions: at most 70000 keys, 800 versions each. -/
import Derived.Test.YtfjhlckklgeokaaMvCLm
namespace Go.Proofs.Ytfjhlckklgeokaa
open Go.RowKit Go.PlainAid
set_option linter.unusedVariables false
set_option linter.unusedSimpArgs false


theorem vprune2_any (S : Nat → Prop) (w : World) (tb : Nat) (K : List ByteArray) (f : Fv) (v : SlT) (l : List CellT) (t : Int) (h : VkO S w tb K f) (hr : cellRow w (slV v) l) (hi : ∀ g, (slV v).ownBlock = some g → S g) (hw : ∀ c ∈ l, cellOk c) (hl : l.length ≤ 1000) :
    Calls Try.prog 33 #[slV v, .int .u64 t] w fun e w' => ∃ (ao : Option Addr) (nn cap : Nat) (S' : Nat → Prop), e = .returned (.slice ao nn cap) ∧ VkO S' w' tb K f ∧ cellRow w' (.slice ao nn cap) (l.drop (pruneN l t)) ∧ (∀ g, (Value.slice ao nn cap).ownBlock = some g → S' g) ∧ cellRow w' (slV v) l ∧ Grew S S' w w' := by
  refine (prune_row (slV v) l t w hr.sl hw hl).mono ?_
  rintro e w' ⟨u, rfl, hr1, hb⟩
  obtain ⟨ao, n, cap, rfl⟩ := own_sliceT hr1
  have hr0 : cellRow w' (.slice ao n cap) (l.drop (pruneN l t)) := own_low hr1 (Nat.zero_le _)
  refine ⟨ao, n, cap, _, rfl, (h.below hb).ext hr0, hr0, fun g hg => .inr hg, row_kept_new hr (below_grown hb), fun q hq => ?_, But.of_grown0 (below_grown hb) _⟩
  rcases hq with hq | hq
  · exact .inl hq
  · exact .inr (hr1.lt q hq).1
open Classical in
noncomputable def prF (f : Fv) (h : Int) (M : List ByteArray) : Fv := fun x => if x ∈ M then (f x).drop (pruneN (f x) h) else f x
section
variable {f g : Fv} {h la : Int} {K A B : List ByteArray} {k n : Nat} {y : ByteArray}
theorem prF_nil : prF f h (K.take 0) = f := by funext x; unfold prF; rw [if_neg (by simp)]
theorem prF_all (hK : KOf K f) : prF f h K = pruneF f h := by
  funext x; unfold prF pruneF
  by_cases hx : x ∈ K
  · rw [if_pos hx]
  · rw [if_neg hx]
    have e : f x = [] := by
      by_cases q : f x = []
      · exact q
      · exact absurd ((hK.mem x).2 q) hx
    rw [e, List.drop_nil]
theorem prF_at (hup : Kup K) (hy : K[k]? = some y) : prF f h (K.take k) y = f y := by
  unfold prF; rw [if_neg]
  intro hm
  obtain ⟨hk, e⟩ := List.getElem?_eq_some_iff.1 hy
  obtain ⟨j, hj, e3⟩ := List.mem_iff_getElem.1 hm
  rw [List.length_take] at hj
  rw [List.getElem_take] at e3
  exact klt_ne (List.pairwise_iff_getElem.1 hup j k (by omega) hk (by omega)) (e3.trans e.symm)
theorem prF_step (hup : Kup K) (hy : K[k]? = some y) : prF f h (K.take (k + 1)) = upd (prF f h (K.take k)) y ((prF f h (K.take k) y).drop (pruneN (prF f h (K.take k) y) h)) := by
  rw [prF_at hup hy]
  funext x
  by_cases e : x = y
  · subst e; rw [upd_eq]; unfold prF; rw [takeO_at hy, if_pos (by simp)]
  · rw [upd_ne e]; unfold prF; rw [takeO_at hy]
    by_cases hm : x ∈ K.take k
    · rw [if_pos hm, if_pos (by simp [hm])]
    · rw [if_neg hm, if_neg (by simp [hm, e])]
theorem prF_step0 (hup : Kup K) (hy : K[k]? = some y) (h0 : ((prF f h (K.take k) y).drop (pruneN (prF f h (K.take k) y) h)).length = 0) : prF f h (K.take (k + 1)) = upd (prF f h (K.take k)) y [] := by
  rw [prF_step hup hy, List.eq_nil_of_length_eq_zero h0]
theorem FOk.prF (hf : FOk f la n) (M : List ByteArray) : FOk (prF f h M) la n := by
  have hp := hf.prune h
  refine ⟨fun k => ?_, fun k => ?_, fun k => ?_, fun k => ?_⟩ <;> unfold Go.Proofs.Ytfjhlckklgeokaa.prF <;> split
  · exact hp.ok k
  · exact hf.ok k
  · exact hp.up k
  · exact hf.up k
  · exact hp.le k
  · exact hf.le k
  · exact hp.len k
  · exact hf.len k
open Classical in
theorem up_len (hA : Kup A) (hB : Kup B) (h : ∀ x ∈ A, x ∈ B) : A.length ≤ B.length := by
  have e : A = B.filter (fun x => decide (x ∈ A)) := up_ext (key := fun x => x) hA (hB.sublist List.filter_sublist) fun x => by
    rw [List.mem_filter]
    exact ⟨fun hx => ⟨h x hx, decide_eq_true hx⟩, fun hx => of_decide_eq_true hx.2⟩
  rw [e]; exact List.length_filter_le _ _
theorem prF_len (hK : KOf K f) (hA : KOf A (prF f h (K.take k))) : A.length ≤ K.length := up_len hA.up hK.up fun x hx => by
  have h1 := (hA.mem x).1 hx
  refine (hK.mem x).2 fun e => h1 ?_
  unfold prF; split <;> rw [e]
  exact List.drop_nil
def goneK (f : Fv) (h : Int) (M : List ByteArray) : Nat := (M.map fun x => pruneN (f x) h).sum
theorem goneK_at (hy : K[k]? = some y) : goneK f h (K.take (k + 1)) = goneK f h (K.take k) + pruneN (f y) h := by
  unfold goneK; rw [takeO_at hy, List.map_append, List.sum_append]; simp
theorem ne_len0 {α : Type} {l : List α} (h : ¬ ((l.length : Nat) : Int) = 0) : l ≠ [] := fun e => h (by rw [e]; rfl)
end
theorem inR_all (K : List ByteArray) : K.filter (inR ⟨#[]⟩ ⟨#[]⟩) = K := List.filter_eq_self.2 fun k _ => by
  have e0 : (⟨#[]⟩ : ByteArray).toList = [] := by rw [Go.ByteArray.toList_eq]
  unfold inR hit
  rw [e0]
  cases hk : klt k ⟨#[]⟩ with
  | false => rfl
  | true =>
    exfalso
    have : ∀ l : List UInt8, Op.bytesLess l [] = false := fun l => by cases l <;> rfl
    have e : Op.bytesLess k.toList (⟨#[]⟩ : ByteArray).toList = true := hk
    rw [e0, this] at e; cases e
theorem vkeys3_any (S : Nat → Prop) (w : World) (tb : Nat) (K : List ByteArray) (f : Fv) (h : VkO S w tb K f) (hK : K.length ≤ 80000) :
    Calls Try.prog 32 #[pt tb 0, .string ⟨#[]⟩, .string ⟨#[]⟩] w fun e w' => ∃ (ao : Option Addr) (nn cap : Nat), e = .returned (.slice ao nn cap) ∧ w'.ownsRow w.heap.size 9 1 (.slice ao nn cap) K.length (K.flatMap strE) ∧ Below w.heap.size w w' := by
  have := vkeys2_any S w tb K f ⟨#[]⟩ ⟨#[]⟩ h hK
  rw [inR_all] at this
  exact this

set_option maxRecDepth 100000 in
set_option maxHeartbeats 3200000 in
theorem mprune_blk (S : Nat → Prop) (b : Nat) (tb : Nat) (K : List ByteArray) (f : Fv) (la : Int) (ce : Int) (n : Nat) (h : Int) (w : World) (hB : Blk w b 57 #[.bool true, pt tb 0, .int .u64 la, .int .i64 ce]) (hV : VkO S w tb K f) (hSb : ¬ S b) (hF : FOk f la n) (hn : n ≤ 800) (hla : 0 ≤ la ∧ la < 18446744073709551616) (hce : -100000000000 ≤ ce ∧ ce ≤ 100000000000) (hh : 0 ≤ h ∧ h < 18446744073709551616) (hK : K.length ≤ 70000) :
    Calls Try.prog 13 #[pt b 0, .int .u64 h] w fun e w' => ∃ (S' : Nat → Prop) (K' : List ByteArray) (g' : Int), e = .returned (.int .i64 g') ∧ Blk w' b 57 #[.bool true, pt tb 0, .int .u64 la, .int .i64 (ce - g')] ∧ VkO S' w' tb K' (pruneF f h) ∧ (∀ q, S' q → (q = b ∨ S q) ∨ w.heap.size ≤ q) ∧ ¬ S' b ∧ K'.length ≤ K.length ∧ (0 ≤ g' ∧ g' ≤ 100000000) ∧ g' = ((goneK f h K : Nat) : Int) ∧ But (fun q => q = b ∨ S q) w w' := by
 have hB0 := But.refl (fun q => q = b ∨ S q) w
 have hl_hB := hB.lt
 have hinS : ∀ k, S k → (k = b ∨ S k) ∨ w.heap.size ≤ k := fun k hk => .inl (.inr hk)
 have hinb : (b = b ∨ S b) ∨ w.heap.size ≤ b := .inl (.inl rfl)
 have hKup := (VkO.kof hV).up
 refine co_enter (n := 68) Try.func13 rfl rfl rfl [(0, pt b 0), (1, .int .u64 h)] rfl (fun a h0 => ?_)
 refine co_seq ?_
 refine co_reg ?_
 refine pk0 (v := .int .i64 0) h0 rfl fun a1 h1 => ?_; clear h0
 refine pl_nil ?_
 refine co_then ?_
 refine co_seq ?_
 refine co_seq ?_
 refine co_reg ?_
 refine pk0 (v := pt b 0) h1 rfl fun a2 h2 => ?_; clear h1
 refine pw h2 rfl (op_call (args := #[pt b 0]) (R := fun res xw => res = .bool false ∧ w = xw) rfl rfl rfl (by kernel_rfl) (by kernel_rfl) (Try.call25 _ _) (mzero_any b (pt tb 0) (.int .u64 la) (.int .i64 ce) w hB) (by rintro e x ⟨rfl, rfl⟩; exact ⟨_, rfl, rfl, rfl⟩)) ?_; clear h2
 rintro _ _ a3 ⟨rfl, rfl⟩ h3
 refine pl_nil ?_
 refine co_then ?_
 refine co_false h3 rfl ?_
 refine wp_skip ?_
 refine co_then ?_
 refine co_seq ?_
 refine co_reg ?_
 refine pk0 (v := .int .i64 0) h3 rfl fun a5 h5 => ?_; clear h3
 refine pl_nil ?_
 refine co_then ?_
 refine co_seq ?_
 refine co_seq ?_
 refine co_reg ?_
 refine pk0 (v := pt b 0) h5 rfl fun a6 h6 => ?_; clear h5
 refine pk0 (v := pt b 0) h6 rfl fun a7 h7 => ?_; clear h6
 refine pk0 (v := pt b 1) h7 rfl fun a8 h8 => ?_; clear h7
 refine pk (v := pt tb 0) h8 rfl (rn_load1 rfl rfl Try.isAgg55 (hB.cell rfl)) fun a9 h9 => ?_; clear h8
 have ho17 := VkO.ofS hV
 refine pw h9 rfl (op_call (args := #[pt tb 0, .string (⟨#[]⟩), .string (⟨#[]⟩)]) (R := fun res xw => ∃ (ao : Option Addr) (nn cap : Nat), res = .slice ao nn cap ∧ xw.ownsRow w.heap.size 9 1 (.slice ao nn cap) K.length (K.flatMap strE) ∧ Below w.heap.size w xw) rfl rfl rfl (by kernel_rfl) (by kernel_rfl) (Try.call32 _ _) (vkeys3_any S w tb K f hV (by omega)) (by rintro e x ⟨ao, nn, cap, h0, h⟩; exact ⟨_, h0, ao, nn, cap, rfl, h⟩)) ?_; clear h9
 rintro _ w11 a10 ⟨ao12, nn13, cp14, rfl, hr15, hb16⟩ h10
 have hz18 := hb16.size
 have ho19 := VkO.ofS hV
 have hl20 : K.length ≤ K.length := Nat.le_refl _
 refine pk (v := .int .i64 ((K.length : Nat) : Int)) h10 rfl (rn_lenOwn rfl rfl Try.underlying75 hr15) fun a21 h21 => ?_; clear h10
 refine pk0 (v := .int .i64 0) h21 rfl fun a22 h22 => ?_; clear h21
 refine pl_nil ?_
 refine co_then ?_
 refine wp_block ?_
 have hin9 := hinS
 have hof9 := hSb
 have hor9 : ∀ i, (Value.slice ao12 nn13 cp14).ownBlock = some i → ¬ S i := (offR_row ho19 hr15 (Nat.le_refl _))
 have hkl9 := Nat.le_refl K.length
 have hgn9 : (0 : Int) = ((goneK f h (K.take 0) : Nat) : Int) := rfl
 have h23 : Slots 68 [(0, pt b 0), (1, .int .u64 h), (5, .int .i64 0), (17, .slice ao12 nn13 cp14), (18, .int .i64 ((K.length : Nat) : Int)), (19, .int .i64 0)] _ := h22.sub ⟨rfl, rfl, rfl, rfl, rfl, rfl, trivial⟩; clear h22
 refine co_loop (fun mm a x => ∃ (k : Nat) (SA : Nat → Prop) (KA : List ByteArray) (ga : Int), Slots 68 [(0, pt b 0), (1, .int .u64 h), (5, .int .i64 ga), (17, .slice ao12 nn13 cp14), (18, .int .i64 ((K.length : Nat) : Int)), (19, .int .i64 ((k : Nat) : Int))] a ∧ mm = K.length - k ∧ (k ≤ K.length) ∧ (∀ k, SA k → (k = b ∨ S k) ∨ w.heap.size ≤ k) ∧ (¬ SA b) ∧ (∀ i, (Value.slice ao12 nn13 cp14).ownBlock = some i → ¬ SA i) ∧ (KA.length ≤ K.length) ∧ (0 ≤ ga ∧ ga ≤ 1000 * k) ∧ (ga = ((goneK f h (K.take k) : Nat) : Int)) ∧ Blk x b 57 #[.bool true, pt tb 0, .int .u64 la, .int .i64 ce] ∧ VkO SA x tb KA (prF f h (K.take k)) ∧ x.ownsRow w.heap.size 9 1 (.slice ao12 nn13 cp14) K.length (K.flatMap strE) ∧ But (fun q => q = b ∨ S q) w x) (K.length - 0) ?_ ?_
 have hk24 := hB.below hb16
 have hO25 := VkO.gr hV (below_grown hb16) (fun k e => by cases e)
 have hB26 := fbU_call hB0 hb16
 · exact ⟨0, S, K, 0, h23.sub ⟨rfl, rfl, rfl, rfl, rfl, (slot_eq rfl (congrArg (Value.int .i64) (by first | rfl | omega))), trivial⟩, rfl, by omega, by exact hin9, by exact hof9, by exact hor9, by exact hkl9, by omega, by exact hgn9, hk24, (by rw [prF_nil]; exact hO25), hr15, hB26⟩
 · rintro k27 a28 w29 ⟨k, SA, KA, ga, h28, rfl, hi30, hi31, hi32, hi33, hi34, hi35, hi36, hf37, hf38, hf39, hB40⟩
   have hz41 := hB40.size
   have hl42 := hf37.lt
   have hgnA : ga = ((goneK f h (K.take k) : Nat) : Int) := by assumption
   have hinA : ∀ k, SA k → (k = b ∨ S k) ∨ w.heap.size ≤ k := by assumption
   have hofA : ¬ SA b := by assumption
   have horA : ∀ i, (Value.slice ao12 nn13 cp14).ownBlock = some i → ¬ SA i := by assumption
   have hFA := FOk.prF (h := h) hF (K.take k)
   refine co_seq ?_
   refine co_reg ?_
   refine pk0 (v := .bool (decide (((k : Nat) : Int) < ((K.length : Nat) : Int)))) h28 rfl fun a43 h43 => ?_; clear h28
   refine pl_nil ?_
   refine co_then ?_
   refine co_seq ?_
   cases hc44 : (decide (((k : Nat) : Int) < ((K.length : Nat) : Int)))
   ·
    rw [hc44] at h43
    have hp45 : ¬ (((k : Nat) : Int) < ((K.length : Nat) : Int)) := of_decide_eq_false hc44
    clear hc44
    refine co_false h43 rfl ?_
    refine wp_exit ?_
    refine co_thenX ?_
    refine co_thenX ?_
    refine co_blockX ?_
    refine co_then ?_
    refine co_seq ?_
    refine co_reg ?_
    refine pk0 (v := pt b 0) h43 rfl fun a46 h46 => ?_; clear h43
    refine pk0 (v := pt b 0) h46 rfl fun a47 h47 => ?_; clear h46
    refine pk0 (v := pt b 3) h47 rfl fun a48 h48 => ?_; clear h47
    refine pk (v := .int .i64 ce) h48 rfl (rn_load1 rfl rfl Try.isAgg3 (hf37.cell rfl)) fun a49 h49 => ?_; clear h48
    refine pk0 (v := .int .i64 ga) h49 rfl fun a50 h50 => ?_; clear h49
    refine pk (v := .int .i64 (ce - ga)) h50 rfl (rn_arith rfl rfl rfl rfl rfl rfl (IntWalk.i64_in _ (by omega))) fun a51 h51 => ?_; clear h50
    refine pk0 (v := pt b 0) h51 rfl fun a52 h52 => ?_; clear h51
    refine pk0 (v := pt b 3) h52 rfl fun a53 h53 => ?_; clear h52
    refine pwD h53 rfl (op_store1 rfl rfl rfl rfl Try.sizeOf3 hf37 rfl) ?_; clear h53
    rintro _ w55 a54 ⟨hk56, hz57, hg58⟩ h54
    have hk56' : Blk w55 b 57 #[.bool true, pt tb 0, .int .u64 la, .int .i64 (ce - ga)] := hk56; clear hk56
    have hz59 := hg58.size
    refine pl_nil ?_
    refine co_then ?_
    refine co_seq ?_
    refine co_reg ?_
    refine pk0 (v := .int .i64 ga) h54 rfl fun a60 h60 => ?_; clear h54
    refine pk0 (v := .int .i64 ga) h60 rfl fun a61 h61 => ?_; clear h60
    refine pl_nil ?_
    refine co_then ?_
    refine wp_ret ?_
    refine co_ret1 h61 rfl rfl ?_
    have hO62 := VkO.gr hf38 hg58 (fun k e => by cases e; exact hofA)
    have hB63 := fbU_at hB40 hg58 (fun hlt => by rcases hinb with hq | hq; exact hq; omega)
    have hk9 : K.take k = K := List.take_of_length_le (by omega)
    have hQ1 := hO62
    rw [hk9, prF_all (VkO.kof hV)] at hQ1
    exact ⟨_, _, _, rfl, hk56', hQ1, hinA, hofA, by omega, by omega, by rw [← hk9]; exact hgnA, hB63⟩
   ·
    rw [hc44] at h43
    have hp64 : ((k : Nat) : Int) < ((K.length : Nat) : Int) := of_decide_eq_true hc44
    clear hc44
    refine co_true h43 rfl ?_
    refine wp_skip ?_
    refine co_then ?_
    refine co_seq ?_
    refine wp_block ?_
    refine co_seq ?_
    refine co_reg ?_
    obtain ⟨y65, hy65⟩ : ∃ z, K[k]? = some z := ⟨_, List.getElem?_eq_getElem (by first | omega | (simp; done) | (simp; omega))⟩
    refine pk (v := pt (blkOf (.slice ao12 nn13 cp14)) (offOf (.slice ao12 nn13 cp14) + k * 1)) h43 rfl (rn_index rfl rfl rfl Try.underlying75 Try.sizeOf9 (row_sl hf39 strE_len) (by omega) (by first | omega | (simp; done) | (simp; omega))) fun a66 h66 => ?_; clear h43
    refine pk (v := .string y65) h66 rfl (rn_load1 rfl rfl Try.isAgg9 ((sl_at (row_sl hf39 strE_len) hy65) 0 _ rfl)) fun a67 h67 => ?_; clear h66
    refine pk0 (v := .string y65) h67 rfl fun a68 h68 => ?_; clear h67
    refine pl_nil ?_
    refine co_then ?_
    refine co_seq ?_
    refine co_reg ?_
    refine pk0 (v := pt b 0) h68 rfl fun a69 h69 => ?_; clear h68
    refine pk0 (v := pt b 0) h69 rfl fun a70 h70 => ?_; clear h69
    refine pk0 (v := pt b 1) h70 rfl fun a71 h71 => ?_; clear h70
    refine pk (v := pt tb 0) h71 rfl (rn_load1 rfl rfl Try.isAgg55 (hf37.cell rfl)) fun a72 h72 => ?_; clear h71
    refine pk0 (v := .string y65) h72 rfl fun a73 h73 => ?_; clear h72
    refine pw h73 rfl (op_call (args := #[pt tb 0, .string y65]) (R := fun res xw => ∃ (v : SlT) (b : Bool), res = .tuple #[.slice v.a v.n v.c, .bool b] ∧ xw.ownsRow 0 71 3 (.slice v.a v.n v.c) ((prF f h (K.take k)) y65).length (((prF f h (K.take k)) y65).flatMap cellE) ∧ (∀ g, (Value.slice v.a v.n v.c).ownBlock = some g → SA g) ∧ w29 = xw) rfl rfl rfl (by kernel_rfl) (by kernel_rfl) (Try.call27 _ _) (vget_any SA w29 tb KA (prF f h (K.take k)) y65 hf38) (by rintro e x ⟨v, b, h0, h⟩; exact ⟨_, h0, v, b, rfl, h⟩)) ?_; clear h73
    rintro _ _ a74 ⟨vv76, bb77, rfl, hr78, hi79, rfl⟩ h74
    refine pk0 (v := .tuple #[.slice vv76.a vv76.n vv76.c, .bool bb77]) h74 rfl fun a80 h80 => ?_; clear h74
    refine pk0 (v := .slice vv76.a vv76.n vv76.c) h80 rfl fun a81 h81 => ?_; clear h80
    refine pk0 (v := .bool bb77) h81 rfl fun a82 h82 => ?_; clear h81
    refine pk0 (v := .slice vv76.a vv76.n vv76.c) h82 rfl fun a83 h83 => ?_; clear h82
    refine pk0 (v := .bool bb77) h83 rfl fun a84 h84 => ?_; clear h83
    refine pl_nil ?_
    refine co_then ?_
    refine co_seq ?_
    refine co_reg ?_
    refine pk0 (v := .slice vv76.a vv76.n vv76.c) h84 rfl fun a85 h85 => ?_; clear h84
    refine pk0 (v := .int .u64 h) h85 rfl fun a86 h86 => ?_; clear h85
    have hl89 := hFA.len y65; have hl89d : (((prF f h (K.take k)) y65).drop (pruneN ((prF f h (K.take k)) y65) h)).length ≤ ((prF f h (K.take k)) y65).length := by rw [List.length_drop]; omega
    refine pw h86 rfl (op_call (args := #[.slice vv76.a vv76.n vv76.c, .int .u64 h]) (R := fun res xw => ∃ v' : SlT, ∃ S' : Nat → Prop, res = .slice v'.a v'.n v'.c ∧ VkO S' xw tb KA (prF f h (K.take k)) ∧ (xw.ownsRow 0 71 3 (.slice v'.a v'.n v'.c) (((prF f h (K.take k)) y65).drop (pruneN ((prF f h (K.take k)) y65) h)).length ((((prF f h (K.take k)) y65).drop (pruneN ((prF f h (K.take k)) y65) h)).flatMap cellE)) ∧ (∀ g, (Value.slice v'.a v'.n v'.c).ownBlock = some g → S' g) ∧ (xw.ownsRow 0 71 3 (.slice vv76.a vv76.n vv76.c) ((prF f h (K.take k)) y65).length (((prF f h (K.take k)) y65).flatMap cellE)) ∧ Grew SA S' w29 xw) rfl rfl rfl (by kernel_rfl) (by kernel_rfl) (Try.call33 _ _) (vprune2_any SA w29 tb KA (prF f h (K.take k)) vv76 ((prF f h (K.take k)) y65) h hf38 hr78 hi79 (hFA.ok y65) (by omega)) (by rintro e x ⟨ao, nn, cap, S', h0, h⟩; exact ⟨_, h0, ⟨ao, nn, cap⟩, S', rfl, h⟩)) ?_; clear h86
    rintro _ w88 a87 ⟨v'90, S91, rfl, hO92, hq94, hq95, hq96, hx93⟩ h87
    have hB97 := fbU_foot hB40 hx93.but (fun i hi hq => by rcases hinA i hq with k | k; exact k; omega)
    have hz98 := hB97.size
    have hz99 := hx93.but.size
    have hin100 : ∀ q, S91 q → (q = b ∨ S q) ∨ w.heap.size ≤ q := fun q hq => by rcases hx93.sub q hq with k | k; exact hinA q k; exact .inr (by omega)
    obtain ⟨m101, hm101⟩ : ∃ z : Nat, z = ((prF f h (K.take k)) y65).length := ⟨_, rfl⟩; rw [← hm101] at hq96
    obtain ⟨m102, hm102⟩ : ∃ z : Nat, z = (((prF f h (K.take k)) y65).drop (pruneN ((prF f h (K.take k)) y65) h)).length := ⟨_, rfl⟩; rw [← hm102] at hq94
    have hl103 : m101 ≤ n := by omega
    have hl104 : m102 ≤ m101 := by omega
    refine pk0 (v := .slice v'90.a v'90.n v'90.c) h87 rfl fun a105 h105 => ?_; clear h87
    refine pl_nil ?_
    refine co_then ?_
    refine co_seq ?_
    refine co_reg ?_
    refine pk0 (v := .int .i64 ga) h105 rfl fun a106 h106 => ?_; clear h105
    refine pk0 (v := .slice vv76.a vv76.n vv76.c) h106 rfl fun a107 h107 => ?_; clear h106
    refine pk (v := .int .i64 ((m101 : Nat) : Int)) h107 rfl (rn_lenOwn rfl rfl Try.underlying62 hq96) fun a108 h108 => ?_; clear h107
    refine pk0 (v := .slice v'90.a v'90.n v'90.c) h108 rfl fun a109 h109 => ?_; clear h108
    refine pk (v := .int .i64 ((m102 : Nat) : Int)) h109 rfl (rn_lenOwn rfl rfl Try.underlying62 hq94) fun a110 h110 => ?_; clear h109
    refine pk (v := .int .i64 (((m101 : Nat) : Int) - ((m102 : Nat) : Int))) h110 rfl (rn_arith rfl rfl rfl rfl rfl rfl (IntWalk.i64_in _ (by omega))) fun a111 h111 => ?_; clear h110
    refine pk (v := .int .i64 (ga + (((m101 : Nat) : Int) - ((m102 : Nat) : Int)))) h111 rfl (rn_arith rfl rfl rfl rfl rfl rfl (IntWalk.i64_in _ (by omega))) fun a112 h112 => ?_; clear h111
    refine pk0 (v := .int .i64 (ga + (((m101 : Nat) : Int) - ((m102 : Nat) : Int)))) h112 rfl fun a113 h113 => ?_; clear h112
    refine pl_nil ?_
    refine co_then ?_
    refine co_seq ?_
    refine co_reg ?_
    refine pk0 (v := .slice v'90.a v'90.n v'90.c) h113 rfl fun a114 h114 => ?_; clear h113
    refine pk (v := .int .i64 ((m102 : Nat) : Int)) h114 rfl (rn_lenOwn rfl rfl Try.underlying62 hq94) fun a115 h115 => ?_; clear h114
    refine pk0 (v := .bool (((m102 : Nat) : Int) == 0)) h115 rfl fun a116 h116 => ?_; clear h115
    refine pl_nil ?_
    refine co_then ?_
    cases hc117 : (((m102 : Nat) : Int) == 0)
    ·
     rw [hc117] at h116
     have hp118 : ¬ (((m102 : Nat) : Int) = 0) := by first | simpa using hc117 | simpa [and_assoc] using hc117
     clear hc117
     refine co_false h116 rfl ?_
     refine co_reg ?_
     refine pk0 (v := pt b 0) h116 rfl fun a119 h119 => ?_; clear h116
     refine pk0 (v := pt b 0) h119 rfl fun a120 h120 => ?_; clear h119
     refine pk0 (v := pt b 1) h120 rfl fun a121 h121 => ?_; clear h120
     have hk122 := Blk.butS hf37 hx93.but hofA
     refine pk (v := pt tb 0) h121 rfl (rn_load1 rfl rfl Try.isAgg55 (hk122.cell rfl)) fun a123 h123 => ?_; clear h121
     refine pk0 (v := .string y65) h123 rfl fun a124 h124 => ?_; clear h123
     refine pk0 (v := .slice v'90.a v'90.n v'90.c) h124 rfl fun a125 h125 => ?_; clear h124
     refine pw h125 rfl (op_call (args := #[pt tb 0, .string y65, .slice v'90.a v'90.n v'90.c]) (R := fun res xw => ∃ b' : Bool, ∃ S' : Nat → Prop, res = .bool b' ∧ VkO S' xw tb (insY KA y65) (upd (prF f h (K.take k)) y65 (((prF f h (K.take k)) y65).drop (pruneN ((prF f h (K.take k)) y65) h))) ∧ Grew S91 S' w88 xw) rfl rfl rfl (by kernel_rfl) (by kernel_rfl) (Try.call29 _ _) (vput_any S91 w88 tb KA (prF f h (K.take k)) y65 v'90 (((prF f h (K.take k)) y65).drop (pruneN ((prF f h (K.take k)) y65) h)) hO92 (by have hz9 := hq94; rw [hm102] at hz9; exact hz9) hq95 (ne_len0 (by omega)) (by omega)) (by rintro e x ⟨b', S', h0, h⟩; exact ⟨_, h0, b', S', rfl, h⟩)) ?_; clear h125
     rintro _ w127 a126 ⟨b'128, S129, rfl, hO130, hx131⟩ h126
     have hr132 := own_butS hf39 hx93.but horA
     have hB133 := fbU_foot hB97 hx131.but (fun i hi hq => by rcases hin100 i hq with k | k; exact k; omega)
     have hz134 := hB133.size
     have hz135 := hx131.but.size
     have hin136 : ∀ q, S129 q → (q = b ∨ S q) ∨ w.heap.size ≤ q := fun q hq => by rcases hx131.sub q hq with k | k; exact hin100 q k; exact .inr (by omega)
     have hl137 := len_insY KA y65
     refine pl_nil ?_
     refine co_blockN ?_
     refine co_then ?_
     refine co_reg ?_
     refine pk (v := .int .i64 ((k + 1 : Nat) : Int)) h126 rfl (rn_arith' rfl rfl rfl rfl rfl rfl (IntWalk.i64_in _ (by omega)) (by omega)) fun a138 h138 => ?_; clear h126
     refine pk0 (v := .int .i64 ((k + 1 : Nat) : Int)) h138 rfl fun a139 h139 => ?_; clear h138
     refine pl_nil ?_
     refine co_then ?_
     refine ⟨(K.length - (k + 1)), by omega, ?_⟩
     have hin9 := hin136
     have hof9 := (Grew.off hx131 (Grew.off hx93 hofA hf37.lt) hk122.lt)
     have hor9 : ∀ i, (Value.slice ao12 nn13 cp14).ownBlock = some i → ¬ S129 i := (Grew.offR hx131 hr132 (Grew.offR hx93 hf39 horA))
     have hkl9 := prF_len (VkO.kof hV) (VkO.kof (show VkO _ _ _ _ (prF f h (K.take (k + 1))) from by rw [prF_step hKup (by assumption)]; exact hO130))
     have hpa9 := prF_at (f := f) (h := h) hKup hy65
     have hgs9 := goneK_at (f := f) (h := h) hy65
     have hpl9 := pruneN_le (f y65) h
     have he19 : m101 = (f y65).length := by rw [hm101, hpa9]
     have he29 : m102 = (f y65).length - pruneN (f y65) h := by rw [hm102, List.length_drop, hpa9]
     have hgn9 : (ga + (((m101 : Nat) : Int) - ((m102 : Nat) : Int))) = ((goneK f h (K.take (k + 1)) : Nat) : Int) := by omega
     have hk140 := Blk.butS hk122 hx131.but (Grew.off hx93 hofA hf37.lt)
     have hr141 := own_butS hr132 hx131.but (Grew.offR hx93 hf39 horA)
     exact ⟨k + 1, S129, (insY KA y65), (ga + (((m101 : Nat) : Int) - ((m102 : Nat) : Int))), h139.sub ⟨rfl, rfl, rfl, rfl, rfl, rfl, trivial⟩, rfl, by omega, by exact hin9, by exact hof9, by exact hor9, by exact hkl9, by omega, by exact hgn9, hk140, (show VkO _ _ _ _ (prF f h (K.take (k + 1))) from by rw [prF_step hKup (by assumption)]; exact hO130), hr141, hB133⟩
    ·
     rw [hc117] at h116
     have hp142 : ((m102 : Nat) : Int) = 0 := by first | simpa using hc117 | simpa [and_assoc] using hc117
     clear hc117
     refine co_true h116 rfl ?_
     refine co_reg ?_
     refine pk0 (v := pt b 0) h116 rfl fun a143 h143 => ?_; clear h116
     refine pk0 (v := pt b 0) h143 rfl fun a144 h144 => ?_; clear h143
     refine pk0 (v := pt b 1) h144 rfl fun a145 h145 => ?_; clear h144
     have hk146 := Blk.butS hf37 hx93.but hofA
     refine pk (v := pt tb 0) h145 rfl (rn_load1 rfl rfl Try.isAgg55 (hk146.cell rfl)) fun a147 h147 => ?_; clear h145
     refine pk0 (v := .string y65) h147 rfl fun a148 h148 => ?_; clear h147
     refine pw h148 rfl (op_call (args := #[pt tb 0, .string y65]) (R := fun res xw => ∃ b' : Bool, ∃ S' : Nat → Prop, res = .bool b' ∧ VkO S' xw tb (delY KA y65) (upd (prF f h (K.take k)) y65 []) ∧ Grew S91 S' w88 xw) rfl rfl rfl (by kernel_rfl) (by kernel_rfl) (Try.call34 _ _) (vdel_any S91 w88 tb KA (prF f h (K.take k)) y65 hO92 (by omega)) (by rintro e x ⟨b', S', h0, h⟩; exact ⟨_, h0, b', S', rfl, h⟩)) ?_; clear h148
     rintro _ w150 a149 ⟨b'151, S152, rfl, hO153, hx154⟩ h149
     have hr155 := own_butS hf39 hx93.but horA
     have hB156 := fbU_foot hB97 hx154.but (fun i hi hq => by rcases hin100 i hq with k | k; exact k; omega)
     have hz157 := hB156.size
     have hz158 := hx154.but.size
     have hin159 : ∀ q, S152 q → (q = b ∨ S q) ∨ w.heap.size ≤ q := fun q hq => by rcases hx154.sub q hq with k | k; exact hin100 q k; exact .inr (by omega)
     refine pl_nil ?_
     refine co_blockN ?_
     refine co_then ?_
     refine co_reg ?_
     refine pk (v := .int .i64 ((k + 1 : Nat) : Int)) h149 rfl (rn_arith' rfl rfl rfl rfl rfl rfl (IntWalk.i64_in _ (by omega)) (by omega)) fun a160 h160 => ?_; clear h149
     refine pk0 (v := .int .i64 ((k + 1 : Nat) : Int)) h160 rfl fun a161 h161 => ?_; clear h160
     refine pl_nil ?_
     refine co_then ?_
     refine ⟨(K.length - (k + 1)), by omega, ?_⟩
     have hin9 := hin159
     have hof9 := (Grew.off hx154 (Grew.off hx93 hofA hf37.lt) hk146.lt)
     have hor9 : ∀ i, (Value.slice ao12 nn13 cp14).ownBlock = some i → ¬ S152 i := (Grew.offR hx154 hr155 (Grew.offR hx93 hf39 horA))
     have hkl9 := prF_len (VkO.kof hV) (VkO.kof (show VkO _ _ _ _ (prF f h (K.take (k + 1))) from by rw [prF_step0 hKup (by assumption) (by omega)]; exact hO153))
     have hpa9 := prF_at (f := f) (h := h) hKup hy65
     have hgs9 := goneK_at (f := f) (h := h) hy65
     have hpl9 := pruneN_le (f y65) h
     have he19 : m101 = (f y65).length := by rw [hm101, hpa9]
     have he29 : m102 = (f y65).length - pruneN (f y65) h := by rw [hm102, List.length_drop, hpa9]
     have hgn9 : (ga + (((m101 : Nat) : Int) - ((m102 : Nat) : Int))) = ((goneK f h (K.take (k + 1)) : Nat) : Int) := by omega
     have hk162 := Blk.butS hk146 hx154.but (Grew.off hx93 hofA hf37.lt)
     have hr163 := own_butS hr155 hx154.but (Grew.offR hx93 hf39 horA)
     exact ⟨k + 1, S152, (delY KA y65), (ga + (((m101 : Nat) : Int) - ((m102 : Nat) : Int))), h161.sub ⟨rfl, rfl, rfl, rfl, rfl, rfl, trivial⟩, rfl, by omega, by exact hin9, by exact hof9, by exact hor9, by exact hkl9, by omega, by exact hgn9, hk162, (show VkO _ _ _ _ (prF f h (K.take (k + 1))) from by rw [prF_step0 hKup (by assumption) (by omega)]; exact hO153), hr163, hB156⟩
end Go.Proofs.Ytfjhlckklgeokaa
