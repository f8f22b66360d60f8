/- Put together: MwC, MwD. Conditions: as each says. -/
import Derived.Test.YtfjhlckklgeokaaLm1
import Derived.Test.YtfjhlckklgeokaaLm4
/- The document's store: Prune. Conditions: at most 70000 keys, 800 versions each. -/
namespace Go.Proofs.Ytfjhlckklgeokaa
open Go.RowKit Go.PlainAid
set_option linter.unusedVariables false
set_option linter.unusedSimpArgs false


def RwsK (w : World) (f : Fv) (L : List Kv) : Prop := ∀ a ∈ L, cellRow w (slV a.2) (f a.1)
section
variable {w x : World} {f g : Fv} {L M : List Kv} {h : Int} {i n : Nat} {y : Kv}
theorem RwsK.new (h : RwsK w f L) (hg : w.grownBy x none) : RwsK x f L := fun a ha => row_kept_new (h a ha) hg
theorem RwsK.blk {N : Nat} {T : TypeId} {cs : Array Value} (h : RwsK w f L) (hb : Blk w N T cs) (hT : 71 ≠ T) (hg : w.grownBy x (some N)) : RwsK x f L := fun a ha => row_kept_at (h a ha) hg (own_neT (h a ha) hb hT)
theorem RwsK.row {B sz q : Nat} {T : TypeId} {v : Value} {xs : List Value} (h : RwsK w f L) (hr : w.ownsRow B T sz v q xs) (hT : 71 ≠ T) (hg : w.grownBy x v.ownBlock) : RwsK x f L := fun a ha => row_kept_row (h a ha) hr hg hT
theorem RwsK.snoc (h : RwsK w f L) (hy : cellRow w (slV y.2) (f y.1)) : RwsK w f (L ++ [y]) := fun a ha => by
  rcases List.mem_append.1 ha with ha | ha
  · exact h a ha
  · simp only [List.mem_singleton] at ha; subst ha; exact hy
theorem RwsK.nil : RwsK w f [] := fun a ha => by simp at ha
theorem RwsK.ok (h : RwsK w f L) : ∀ a ∈ L, RwOk w f a := fun a ha => cellRow.sl (h a ha)
theorem pr_yes (hm : M.map (·.1) = ((L.take i).map (·.1)).filter (fun k => !(pruneF f h k).isEmpty)) (hy : L[i]? = some y) (hl : ¬ ((pruneF f h y.1).length : Int) = 0) (z : SlT) : (M ++ [(y.1, z)]).map (·.1) = ((L.take (i + 1)).map (·.1)).filter (fun k => !(pruneF f h k).isEmpty) := by
  rw [takeO_at hy, List.map_append, List.map_append, List.filter_append, hm]
  have : (pruneF f h y.1).isEmpty = false := by
    cases hp : pruneF f h y.1 with
    | nil => rw [hp] at hl; exact absurd rfl hl
    | cons a r => rfl
  simp [List.filter_cons, this]
theorem pr_no (hm : M.map (·.1) = ((L.take i).map (·.1)).filter (fun k => !(pruneF f h k).isEmpty)) (hy : L[i]? = some y) (hl : ((pruneF f h y.1).length : Int) = 0) : M.map (·.1) = ((L.take (i + 1)).map (·.1)).filter (fun k => !(pruneF f h k).isEmpty) := by
  rw [takeO_at hy, List.map_append, List.filter_append, hm]
  have : pruneF f h y.1 = [] := List.eq_nil_of_length_eq_zero (by omega)
  simp [List.filter_cons, this]
theorem pr_kof (hK : KOf (L.map (·.1)) f) (hm : M.map (·.1) = (L.map (·.1)).filter (fun k => !(pruneF f h k).isEmpty)) : KOf (M.map (·.1)) (pruneF f h) := by
  rw [hm]
  refine ⟨hK.up.sublist List.filter_sublist, fun k => ?_⟩
  rw [List.mem_filter]
  constructor
  · rintro ⟨_, h2⟩ e; rw [e] at h2; simp at h2
  · intro h2
    refine ⟨(hK.mem k).2 fun e => h2 (by unfold pruneF; rw [e, List.drop_nil]), ?_⟩
    cases hp : pruneF f h k with
    | nil => exact absurd hp h2
    | cons a r => rfl
theorem ne_of_key (hK : KOf (L.map (·.1)) f) (hy : L[i]? = some y) : f y.1 ≠ [] := (hK.mem _).1 (List.mem_map_of_mem (List.mem_of_getElem? hy))
theorem lo_snoc {z : SlT} {k : ByteArray} (h : ∀ a ∈ M, ∀ g, (slV a.2).ownBlock = some g → n ≤ g) (hz : ∀ g, (slV z).ownBlock = some g → n ≤ g) : ∀ a ∈ M ++ [(k, z)], ∀ g, (slV a.2).ownBlock = some g → n ≤ g := fun a ha g hg => by
  rcases List.mem_append.1 ha with ha | ha
  · exact h a ha g hg
  · simp only [List.mem_singleton] at ha; subst ha; exact hz g hg
end

set_option maxRecDepth 100000 in
set_option maxHeartbeats 3200000 in
theorem rprune_blk (d : Nat) (u : Value) (la : Int) (L : List Kv) (f : Fv) (n : Nat) (h : Int) (w : World) (hB : Blk w d 31 #[u, .int .u64 la]) (hR : w.ownsRow 0 80 2 u L.length (L.flatMap rwE)) (hE : RwsK w f L) (hK : KOf (L.map (·.1)) f) (hF : FOk f la n) (hL : L.length ≤ 70000) (hn : n ≤ 800) :
    Calls Try.prog 14 #[pt d 0, .int .u64 h] w fun e w' => ∃ (u' : Value) (M : List Kv), e = .returned (.int .i64 (((csL f L : Nat) : Int) - ((csL (pruneF f h) M : Nat) : Int))) ∧ Blk w' d 31 #[u', .int .u64 la] ∧ w'.ownsRow w.heap.size 80 2 u' M.length (M.flatMap rwE) ∧ RwsK w' (pruneF f h) M ∧ KOf (M.map (·.1)) (pruneF f h) ∧ (∀ a ∈ M, ∀ g, (slV a.2).ownBlock = some g → w.heap.size ≤ g) ∧ M.length ≤ L.length ∧ But (fun q => q = d) w w' := by
 have hB0 := But.refl (fun q => q = d) w
 have hl_hB := hB.lt
 have hinb : (fun q => q = d) d ∨ w.heap.size ≤ d := .inl rfl
 have hud := row_under hR (rfl : w.heap.size = _)
 refine co_enter (n := 54) Try.func14 rfl rfl rfl [(0, pt d 0), (1, .int .u64 h)] rfl (fun a h0 => ?_)
 refine co_seq ?_
 refine co_reg ?_
 refine pk0 (v := .int .i64 0) h0 rfl fun a1 h1 => ?_; clear h0
 refine pl_nil ?_
 refine co_then ?_
 refine co_seq ?_
 refine co_reg ?_
 refine pk0 (v := pt d 0) h1 rfl fun a2 h2 => ?_; clear h1
 have cs6 := csL_le hF L; have cs6b : n * L.length ≤ 800 * 70000 := Nat.mul_le_mul hn (by omega)
 have cs6c : csL f L ≤ 56000000 := by omega
 refine pw h2 rfl (op_call (args := #[pt d 0]) (R := fun res xw => res = .int .i64 ((csL f L : Nat) : Int) ∧ Below w.heap.size w xw) rfl rfl rfl (by kernel_rfl) (by kernel_rfl) (Try.call18 _ _) (rcells_blk d u la L f n w hB (row_sl hR rwE_len) (RwsK.ok hE) hK hF (by omega) hn) (by rintro e x ⟨rfl, h⟩; exact ⟨_, rfl, rfl, h⟩)) ?_; clear h2
 rintro _ w4 a3 ⟨rfl, hb5⟩ h3
 have hz7 := hb5.size
 refine pk0 (v := .int .i64 (((csL f L) : Nat) : Int)) h3 rfl fun a8 h8 => ?_; clear h3
 refine pl_nil ?_
 refine co_then ?_
 refine co_seq ?_
 refine co_reg ?_
 refine pk0 (v := .slice none 0 0) h8 rfl fun a9 h9 => ?_; clear h8
 refine pl_nil ?_
 refine co_then ?_
 refine co_seq ?_
 refine co_seq ?_
 refine co_reg ?_
 refine pk0 (v := .int .i64 0) h9 rfl fun a10 h10 => ?_; clear h9
 refine pl_nil ?_
 refine co_then ?_
 refine wp_block ?_
 have hmp9 : ([] : List Kv).map (·.1) = ((L.take 0).map (·.1)).filter (fun k => !(pruneF f h k).isEmpty) := rfl
 have hlo9 : ∀ a ∈ ([] : List Kv), ∀ g, (slV a.2).ownBlock = some g → w.heap.size ≤ g := fun a ha => by simp at ha
 have h11 : Slots 54 [(0, pt d 0), (1, .int .u64 h), (5, .int .i64 (((csL f L) : Nat) : Int)), (6, .slice none 0 0), (7, .int .i64 0)] _ := h10.sub ⟨rfl, rfl, rfl, rfl, rfl, trivial⟩; clear h10
 refine co_loop (fun mm a x => ∃ (i : Nat) (v : Value) (OUT : List Kv), Slots 54 [(0, pt d 0), (1, .int .u64 h), (5, .int .i64 (((csL f L) : Nat) : Int)), (6, v), (7, .int .i64 ((i : Nat) : Int))] a ∧ mm = L.length - i ∧ (i ≤ L.length) ∧ (OUT.map (·.1) = ((L.take i).map (·.1)).filter (fun k => !(pruneF f h k).isEmpty)) ∧ (∀ a ∈ OUT, ∀ g, (slV a.2).ownBlock = some g → w.heap.size ≤ g) ∧ Blk x d 31 #[u, .int .u64 la] ∧ x.ownsRow 0 80 2 u L.length (L.flatMap rwE) ∧ RwsK x f L ∧ x.ownsRow w.heap.size 80 2 v OUT.length (OUT.flatMap rwE) ∧ RwsK x (pruneF f h) OUT ∧ But (fun q => q = d) w x) (L.length - 0) ?_ ?_
 have hk12 := hB.below hb5
 have hr13 := row_kept_new hR (below_grown hb5)
 have hE14 := hE.new (below_grown hb5)
 have hB15 := fbU_call hB0 hb5
 · exact ⟨0, (.slice none 0 0), ([] : List Kv), h11.sub ⟨rfl, rfl, rfl, rfl, (slot_eq rfl (congrArg (Value.int .i64) (by first | rfl | omega))), trivial⟩, rfl, by omega, by exact hmp9, by exact hlo9, hk12, hr13, hE14, (row_nilL _ _ _ _ _), RwsK.nil, hB15⟩
 · rintro k16 a17 w18 ⟨i, v, OUT, h17, rfl, hi19, hi20, hi21, hf22, hf23, hf24, hf25, hf26, hB27⟩
   have hz28 := hB27.size
   have hl29 := hf22.lt
   have hmpA : OUT.map (·.1) = ((L.take i).map (·.1)).filter (fun k => !(pruneF f h k).isEmpty) := by assumption
   have hloA : ∀ a ∈ OUT, ∀ g, (slV a.2).ownBlock = some g → w.heap.size ≤ g := by assumption
   have hol : OUT.length ≤ i := by have := congrArg List.length hmpA; rw [List.length_map] at this; rw [this]; exact Nat.le_trans (List.length_filter_le _ _) (by rw [List.length_map, List.length_take]; omega)
   refine co_seq ?_
   refine co_seq ?_
   refine co_reg ?_
   refine pk0 (v := .int .i64 ((i : Nat) : Int)) h17 rfl fun a30 h30 => ?_; clear h17
   refine pk0 (v := pt d 0) h30 rfl fun a31 h31 => ?_; clear h30
   refine pk0 (v := pt d 0) h31 rfl fun a32 h32 => ?_; clear h31
   refine pk0 (v := pt d 0) h32 rfl fun a33 h33 => ?_; clear h32
   refine pk (v := u) h33 rfl (rn_load1 rfl rfl Try.isAgg28 (hf22.cell rfl)) fun a34 h34 => ?_; clear h33
   refine pk (v := .int .i64 ((L.length : Nat) : Int)) h34 rfl (rn_lenOwn rfl rfl Try.underlying28 hf23) fun a35 h35 => ?_; clear h34
   refine pk0 (v := .bool (decide (((i : Nat) : Int) < ((L.length : Nat) : Int)))) h35 rfl fun a36 h36 => ?_; clear h35
   refine pl_nil ?_
   refine co_then ?_
   cases hc37 : (decide (((i : Nat) : Int) < ((L.length : Nat) : Int)))
   ·
    rw [hc37] at h36
    have hp38 : ¬ (((i : Nat) : Int) < ((L.length : Nat) : Int)) := of_decide_eq_false hc37
    clear hc37
    refine co_false h36 rfl ?_
    refine wp_exit ?_
    refine co_thenX ?_
    refine co_thenX ?_
    refine co_blockX ?_
    refine co_then ?_
    refine co_seq ?_
    refine co_reg ?_
    refine pk0 (v := pt d 0) h36 rfl fun a39 h39 => ?_; clear h36
    refine pk0 (v := v) h39 rfl fun a40 h40 => ?_; clear h39
    refine pk0 (v := pt d 0) h40 rfl fun a41 h41 => ?_; clear h40
    refine pk0 (v := pt d 0) h41 rfl fun a42 h42 => ?_; clear h41
    refine pwD h42 rfl (op_store1 rfl rfl rfl (row_one hf25) Try.sizeOf28 hf22 rfl) ?_; clear h42
    rintro _ w44 a43 ⟨hk45, hz46, hg47⟩ h43
    have hk45' : Blk w44 d 31 #[v, .int .u64 la] := hk45; clear hk45
    have hz48 := hg47.size
    refine pl_nil ?_
    refine co_then ?_
    refine co_seq ?_
    refine co_reg ?_
    refine pk0 (v := .int .i64 (((csL f L) : Nat) : Int)) h43 rfl fun a49 h49 => ?_; clear h43
    refine pk0 (v := pt d 0) h49 rfl fun a50 h50 => ?_; clear h49
    have hk9 : L.take i = L := List.take_of_length_le (by omega)
    have hmpL := hmpA; rw [hk9] at hmpL
    have hkof := pr_kof hK hmpL
    have hB53 := fbU_at hB27 hg47 (fun hlt => by rcases hinb with hq | hq; exact hq; omega)
    have cs55 := csL_le (hF.prune h) OUT; have cs55b : n * OUT.length ≤ 800 * 70000 := Nat.mul_le_mul hn (by omega)
    have cs55c : csL (pruneF f h) OUT ≤ 56000000 := by omega
    have hr56 := row_kept_at hf25 hg47 (own_neT hf25 hf22 (by decide))
    have hE57 := hf26.blk hf22 (by decide) hg47
    refine pw h50 rfl (op_call (args := #[pt d 0]) (R := fun res xw => res = .int .i64 ((csL (pruneF f h) OUT : Nat) : Int) ∧ Below w44.heap.size w44 xw) rfl rfl rfl (by kernel_rfl) (by kernel_rfl) (Try.call18 _ _) (rcells_blk d v la OUT (pruneF f h) n w44 hk45' (row_sl hr56 rwE_len) (RwsK.ok hE57) hkof (hF.prune h) (by omega) hn) (by rintro e x ⟨rfl, h⟩; exact ⟨_, rfl, rfl, h⟩)) ?_; clear h50
    rintro _ w52 a51 ⟨rfl, hb54⟩ h51
    have hz58 := hb54.size
    refine pk (v := .int .i64 ((((csL f L) : Nat) : Int) - (((csL (pruneF f h) OUT) : Nat) : Int))) h51 rfl (rn_arith rfl rfl rfl rfl rfl rfl (IntWalk.i64_in _ (by omega))) fun a59 h59 => ?_; clear h51
    refine pk0 (v := .int .i64 ((((csL f L) : Nat) : Int) - (((csL (pruneF f h) OUT) : Nat) : Int))) h59 rfl fun a60 h60 => ?_; clear h59
    refine pl_nil ?_
    refine co_then ?_
    refine wp_ret ?_
    refine co_ret1 h60 rfl rfl ?_
    have hk61 := hk45'.below hb54
    have hr62 := row_kept_new hr56 (below_grown hb54)
    have hE63 := hE57.new (below_grown hb54)
    have hB64 := fbU_call hB53 hb54
    exact ⟨_, OUT, rfl, hk61, hr62, hE63, hkof, hloA, by omega, hB64⟩
   ·
    rw [hc37] at h36
    have hp65 : ((i : Nat) : Int) < ((L.length : Nat) : Int) := of_decide_eq_true hc37
    clear hc37
    refine co_true h36 rfl ?_
    refine wp_skip ?_
    refine co_then ?_
    refine co_seq ?_
    refine wp_block ?_
    refine co_seq ?_
    refine co_reg ?_
    refine pk0 (v := pt d 0) h36 rfl fun a66 h66 => ?_; clear h36
    refine pk0 (v := pt d 0) h66 rfl fun a67 h67 => ?_; clear h66
    refine pk0 (v := pt d 0) h67 rfl fun a68 h68 => ?_; clear h67
    refine pk (v := u) h68 rfl (rn_load1 rfl rfl Try.isAgg28 (hf22.cell rfl)) fun a69 h69 => ?_; clear h68
    refine pk0 (v := .int .i64 ((i : Nat) : Int)) h69 rfl fun a70 h70 => ?_; clear h69
    obtain ⟨y71, hy71⟩ : ∃ z, L[i]? = some z := ⟨_, List.getElem?_eq_getElem (by first | omega | (simp; done) | (simp; omega))⟩
    have oky71 := (fun (z : Kv) (_ : z ∈ L) => trivial) _ (List.mem_of_getElem? hy71)
    have hy72 : World.ownsRow _ 0 71 3 (.slice y71.2.a y71.2.n y71.2.c) (f y71.1).length ((f y71.1).flatMap cellE) := hf24 y71 (List.mem_of_getElem? hy71)
    have hfly71 := hF.len y71.1
    refine pk (v := pt (blkOf u) (offOf u + i * 2)) h70 rfl (rn_index rfl rfl rfl Try.underlying28 Try.sizeOf80 (row_sl hf23 rwE_len) (by omega) (by first | omega | (simp; done) | (simp; omega))) fun a73 h73 => ?_; clear h70
    refine pk0 (v := pt (blkOf u) (offOf u + i * 2 + 1)) h73 rfl fun a74 h74 => ?_; clear h73
    refine pk (v := .slice y71.2.a y71.2.n y71.2.c) h74 rfl (rn_load1 rfl rfl Try.isAgg62 ((sl_at (row_sl hf23 rwE_len) hy71) 1 _ rfl)) fun a75 h75 => ?_; clear h74
    refine pk0 (v := .int .u64 h) h75 rfl fun a76 h76 => ?_; clear h75
    have hne84 := ne_of_key hK hy71; have hne84l := hF.len y71.1
    refine pw h76 rfl (op_call (args := #[.slice y71.2.a y71.2.n y71.2.c, .int .u64 h]) (R := fun res xw => ∃ (ao : Option Addr) (nn cap : Nat), res = .slice ao nn cap ∧ xw.ownsRow w18.heap.size 71 3 (.slice ao nn cap) (pruneF f h y71.1).length ((pruneF f h y71.1).flatMap cellE) ∧ Below w18.heap.size w18 xw) rfl rfl rfl (by kernel_rfl) (by kernel_rfl) (Try.call35 _ _) (rprune_row (.slice y71.2.a y71.2.n y71.2.c) (f y71.1) h w18 (row_sl hy72 cellE_len) (hF.ok _) (by omega) hne84) (by rintro e x ⟨u, h0, h⟩; obtain ⟨ao, nn, cap, rfl⟩ := own_sliceT h.1; exact ⟨_, h0, ao, nn, cap, rfl, h⟩)) ?_; clear h76
    rintro _ w78 a77 ⟨ao79, nn80, cp81, rfl, hr82, hb83⟩ h77
    have hz85 := hb83.size
    refine pk0 (v := .slice ao79 nn80 cp81) h77 rfl fun a86 h86 => ?_; clear h77
    refine pl_nil ?_
    refine co_then ?_
    refine co_seq ?_
    refine co_reg ?_
    refine pk0 (v := .slice ao79 nn80 cp81) h86 rfl fun a87 h87 => ?_; clear h86
    refine pk (v := .int .i64 (((pruneF f h y71.1).length : Nat) : Int)) h87 rfl (rn_lenOwn rfl rfl Try.underlying62 hr82) fun a88 h88 => ?_; clear h87
    refine pk0 (v := .bool (decide ((((pruneF f h y71.1).length : Nat) : Int) > 0))) h88 rfl fun a89 h89 => ?_; clear h88
    refine pl_nil ?_
    refine co_then ?_
    have hB91 := fbU_call hB27 hb83
    cases hc90 : (decide ((((pruneF f h y71.1).length : Nat) : Int) > 0))
    ·
     rw [hc90] at h89
     have hp92 : ¬ ((((pruneF f h y71.1).length : Nat) : Int) > 0) := of_decide_eq_false hc90
     clear hc90
     refine co_false h89 rfl ?_
     refine wp_skip ?_
     refine co_blockN ?_
     refine co_then ?_
     refine co_reg ?_
     refine pk0 (v := .int .i64 ((i : Nat) : Int)) h89 rfl fun a93 h93 => ?_; clear h89
     refine pk (v := .int .i64 ((i + 1 : Nat) : Int)) h93 rfl (rn_arith' rfl rfl rfl rfl rfl rfl (IntWalk.i64_in _ (by omega)) (by omega)) fun a94 h94 => ?_; clear h93
     refine pk0 (v := .int .i64 ((i + 1 : Nat) : Int)) h94 rfl fun a95 h95 => ?_; clear h94
     refine pl_nil ?_
     refine co_then ?_
     refine ⟨(L.length - (i + 1)), by omega, ?_⟩
     have hmp9 := pr_no hmpA hy71 (by omega)
     have hlo9 := hloA
     have hk96 := hf22.below hb83
     have hr97 := row_kept_new hf23 (below_grown hb83)
     have hE98 := hf24.new (below_grown hb83)
     have hr99 := row_kept_new hf25 (below_grown hb83)
     have hE100 := hf26.new (below_grown hb83)
     exact ⟨i + 1, v, OUT, h95.sub ⟨rfl, rfl, rfl, rfl, rfl, trivial⟩, rfl, by omega, by exact hmp9, by exact hlo9, hk96, hr97, hE98, (row_eq hr99 (rfl)), hE100, hB91⟩
    ·
     rw [hc90] at h89
     have hp101 : (((pruneF f h y71.1).length : Nat) : Int) > 0 := of_decide_eq_true hc90
     clear hc90
     refine co_true h89 rfl ?_
     refine co_reg ?_
     refine pk0 (v := v) h89 rfl fun a102 h102 => ?_; clear h89
     refine pk0 (v := pt d 0) h102 rfl fun a103 h103 => ?_; clear h102
     refine pk0 (v := pt d 0) h103 rfl fun a104 h104 => ?_; clear h103
     refine pk0 (v := pt d 0) h104 rfl fun a105 h105 => ?_; clear h104
     have hk106 := hf22.below hb83
     refine pk (v := u) h105 rfl (rn_load1 rfl rfl Try.isAgg28 (hk106.cell rfl)) fun a107 h107 => ?_; clear h105
     refine pk0 (v := .int .i64 ((i : Nat) : Int)) h107 rfl fun a108 h108 => ?_; clear h107
     have hr109 := row_kept_new hf23 (below_grown hb83)
     refine pk (v := pt (blkOf u) (offOf u + i * 2)) h108 rfl (rn_index rfl rfl rfl Try.underlying28 Try.sizeOf80 (row_sl hr109 rwE_len) (by omega) (by first | omega | (simp; done) | (simp; omega))) fun a110 h110 => ?_; clear h108
     refine pk0 (v := pt (blkOf u) (offOf u + i * 2)) h110 rfl fun a111 h111 => ?_; clear h110
     refine pk (v := .string y71.1) h111 rfl (rn_load1 rfl rfl Try.isAgg9 ((sl_at (row_sl hr109 rwE_len) hy71) 0 _ rfl)) fun a112 h112 => ?_; clear h111
     refine pk0 (v := .slice ao79 nn80 cp81) h112 rfl fun a113 h113 => ?_; clear h112
     refine pk0 (v := .agg #[.string y71.1, .slice ao79 nn80 cp81]) h113 rfl fun a114 h114 => ?_; clear h113
     refine pw h114 rfl (op_new (v := fun N => .slice (some ⟨N, 0, none⟩) 1 1) (T := 80) (cs := #[.string y71.1, .slice ao79 nn80 cp81]) (by kernel_rfl) (by kernel_rfl) (by kernel_rfl)) ?_; clear h114
     rintro _ w116 a115 ⟨N117, rfl, hN120, hz121, hk119, hg118⟩ h115
     have ha122 := row_fresh hr109 hN120
     have hu123 := row_under hr109 hN120
     have hr125 := row_kept_new hf25 (below_grown hb83)
     have ha124 := row_fresh hr125 hN120
     have hu126 := row_under hr125 hN120
     have hr128 := row_kept_new hy72 (below_grown hb83)
     have ha127 := row_fresh hr128 hN120
     have hu129 := row_under hr128 hN120
     have ha130 := row_fresh hr82 hN120
     have hu131 := row_under hr82 hN120
     have hz132 := hg118.size
     try dsimp only at h115
     have hr139 := row_kept_new hr125 hg118
     refine pw h115 rfl (op_append rfl w.heap.size 80 (z := .agg #[.string (⟨#[]⟩), .slice none 0 0]) (size := 2) (bytes := 40) Try.underlying28 (by kernel_rfl) rfl rfl rfl hr139 rfl hk119 rfl (by kernel_rfl) (by first | omega | (simp only [List.length_nil, List.length_append, List.length_cons, List.length_take, List.length_drop]; omega)) (by first | omega | (simp only [List.length_nil, List.length_append, List.length_cons, List.length_take, List.length_drop]; omega)) (by omega)) ?_; clear h115
     rintro v135 w134 a133 ⟨hr136, hg137⟩ h133
     have hr136' : w134.ownsRow w.heap.size 80 2 v135 ((OUT ++ [(y71.1, (⟨ao79, nn80, cp81⟩ : SlT))]).length) ((OUT ++ [(y71.1, (⟨ao79, nn80, cp81⟩ : SlT))]).flatMap rwE) := row_push (y := (y71.1, (⟨ao79, nn80, cp81⟩ : SlT))) hr136 rfl rfl; clear hr136
     have hz140 := hg137.size
     have hE142 := hf26.new (below_grown hb83)
     have hE143 := hE142.new hg118
     have hE144 := hE143.row hr139 (by decide) hg137
     have hr145 := row_kept_new hr82 hg118
     have hr146 := row_kept_row hr145 hr139 hg137 (by decide)
     have hE141 := RwsK.snoc (y := (y71.1, (⟨ao79, nn80, cp81⟩ : SlT))) hE144 (own_low hr146 (Nat.zero_le _))
     have hlo147 := lo_snoc (k := y71.1) (z := (⟨ao79, nn80, cp81⟩ : SlT)) hloA (fun g hg => by have := (hr146.lt g hg).1; omega)
     refine pk0 (v := v135) h133 rfl fun a148 h148 => ?_; clear h133
     refine pl_nil ?_
     refine co_blockN ?_
     refine co_then ?_
     refine co_reg ?_
     refine pk0 (v := .int .i64 ((i : Nat) : Int)) h148 rfl fun a149 h149 => ?_; clear h148
     refine pk (v := .int .i64 ((i + 1 : Nat) : Int)) h149 rfl (rn_arith' rfl rfl rfl rfl rfl rfl (IntWalk.i64_in _ (by omega)) (by omega)) fun a150 h150 => ?_; clear h149
     refine pk0 (v := .int .i64 ((i + 1 : Nat) : Int)) h150 rfl fun a151 h151 => ?_; clear h150
     refine pl_nil ?_
     refine co_then ?_
     refine ⟨(L.length - (i + 1)), by omega, ?_⟩
     have hmp9 := pr_yes hmpA hy71 (by omega) (⟨ao79, nn80, cp81⟩ : SlT)
     have hlo9 := hlo147
     have hk152 := hk106.kept hg118 (by simp)
     have hk153 := hk152.kept hg137 (own_neT hr139 hk152 (by decide))
     have hr154 := row_kept_new hr109 hg118
     have hr155 := row_kept_ap hr154 hr139 hud hg137
     have hE156 := hf24.new (below_grown hb83)
     have hE157 := hE156.new hg118
     have hE158 := hE157.row hr139 (by decide) hg137
     have hB159 := fbU_new hB91 hg118
     have hB160 := fbU_row hB159 (InS.low hr139 (by omega)) hg137
     exact ⟨i + 1, v135, (OUT ++ [(y71.1, (⟨ao79, nn80, cp81⟩ : SlT))]), h151.sub ⟨rfl, rfl, rfl, rfl, rfl, trivial⟩, rfl, by omega, by exact hmp9, by exact hlo9, hk153, hr155, hE158, (row_eq hr136' (rfl)), hE141, hB160⟩
end Go.Proofs.Ytfjhlckklgeokaa

/- The document's store: what lay comes to. Conditions: none. -/
namespace Go.Proofs.Ytfjhlckklgeokaa
open Go.RowKit Go.PlainAid
set_option linter.unusedVariables false
set_option linter.unusedSimpArgs false


section
variable {w x : World} {f : Fv} {L : List Kv} {i : Nat} {y : Kv} {k : ByteArray} {l : List CellT} {z : SlT}
theorem RwsK.under {N : Nat} (h : RwsK w f L) (hN : N = w.heap.size) : ∀ a ∈ L, ∀ g, (slV a.2).ownBlock = some g → g < N := fun a ha g hg => by have := ((h a ha).lt g hg).2; omega
theorem RwsK.rowU {N sz q : Nat} {T : TypeId} {v : Value} {xs : List Value} (h : RwsK w f L) (hu : ∀ a ∈ L, ∀ g, (slV a.2).ownBlock = some g → g < N) (hr : w.ownsRow N T sz v q xs) (hg : w.grownBy x v.ownBlock) : RwsK x f L := fun a ha => row_kept_ap (h a ha) hr (hu a ha) hg
theorem RwsK.atU {N : Nat} (h : RwsK w f L) (hu : ∀ a ∈ L, ∀ g, (slV a.2).ownBlock = some g → g < N) (hg : w.grownBy x (some N)) : RwsK x f L := fun a ha => row_kept_at (h a ha) hg (fun q => by have := hu a ha N q; omega)
theorem RwsK.ins (h : RwsK w f L) (hk : f k = []) : RwsK w f (L.take i ++ [(k, (⟨none, 0, 0⟩ : SlT))] ++ L.drop i) := fun a ha => by
  rcases List.mem_append.1 ha with ha | ha
  · rcases List.mem_append.1 ha with ha | ha
    · exact h a (List.mem_of_mem_take ha)
    · simp only [List.mem_singleton] at ha
      subst ha
      show cellRow w (.slice none 0 0) (f k)
      rw [hk]; exact World.ownsRow_nil _ _ _ _
  · exact h a (List.mem_of_mem_drop ha)
theorem RwsK.set (h : RwsK w f L) (hup : Kup (L.map (·.1))) (hy : L[i]? = some y) (hk : y.1 = k) (hm : cellRow w (slV z) l) : RwsK w (upd f k l) (L.set i (y.1, z)) := fun a ha => by
  obtain ⟨hi, e⟩ := List.getElem?_eq_some_iff.1 hy
  obtain ⟨j, hj, e2⟩ := List.mem_iff_getElem.1 ha
  rw [List.length_set] at hj
  rw [List.getElem_set] at e2
  split at e2
  · subst e2; show cellRow w (slV z) (upd f k l y.1); rw [hk, upd_eq]; exact hm
  · rename_i hne
    have hne2 : a.1 ≠ k := by
      have e' : k = L[i].1 := by rw [e, hk]
      rw [← e2, e']
      have hp := List.pairwise_iff_getElem.1 hup
      rcases Nat.lt_or_gt_of_ne hne with q | q
      · have := hp i j (by simpa using hi) (by simpa using hj) q; simp only [List.getElem_map] at this; exact (klt_ne this).symm
      · have := hp j i (by simpa using hj) (by simpa using hi) q; simp only [List.getElem_map] at this; exact klt_ne this
    rw [upd_ne hne2]; exact h a (by rw [← e2]; exact List.getElem_mem hj)
theorem lay_up (hK : KOf (L.map (·.1)) f) (ht : ∀ a ∈ L.take i, klt a.1 k = true) (hn : L.length ≤ i ∨ ∃ y, L[i]? = some y ∧ klt y.1 k = false ∧ (y.1.toList == k.toList) = false) : Kup ((L.take i ++ [(k, (⟨none, 0, 0⟩ : SlT))] ++ L.drop i).map (·.1)) ∧ f k = [] := by
  have hd : ∀ a ∈ L.drop i, klt k a.1 = true := fun a ha => by
    rcases hn with hn | ⟨y, hy, h1, h2⟩
    · rw [List.drop_eq_nil_of_le hn] at ha; simp at ha
    · obtain ⟨hi, e⟩ := List.getElem?_eq_some_iff.1 hy
      have h3 : klt k y.1 = true := by
        cases hq : klt k y.1 with
        | true => rfl
        | false => have := klt_eq h1 hq; rw [this] at h2; simp at h2
      rw [List.drop_eq_getElem_cons hi] at ha
      rcases List.mem_cons.1 ha with e2 | ha
      · rw [e2, e]; exact h3
      · have hp := List.pairwise_iff_getElem.1 hK.up
        obtain ⟨j, hj, e2⟩ := List.mem_iff_getElem.1 ha
        rw [List.length_drop] at hj
        rw [List.getElem_drop] at e2
        have := hp i (i + 1 + j) (by simpa using hi) (by simp; omega) (by omega)
        simp only [List.getElem_map] at this
        rw [e2, e] at this
        exact klt_tr h3 this
  have hu := hK.up
  refine ⟨?_, none_of hK fun a ha => ?_⟩
  · rw [List.map_append, List.map_append]
    refine List.pairwise_append.2 ⟨List.pairwise_append.2 ⟨?_, by simp, ?_⟩, ?_, ?_⟩
    · exact hu.sublist ((List.take_sublist i L).map _)
    · intro a ha b hb
      obtain ⟨a', ha', rfl⟩ := List.mem_map.1 ha
      simp at hb; subst hb; exact ht a' ha'
    · exact hu.sublist ((List.drop_sublist i L).map _)
    · intro a ha b hb
      obtain ⟨b', hb', rfl⟩ := List.mem_map.1 hb
      rcases List.mem_append.1 ha with ha | ha
      · obtain ⟨a', ha', rfl⟩ := List.mem_map.1 ha; exact klt_tr (ht a' ha') (hd b' hb')
      · simp at ha; subst ha; exact hd b' hb'
  · rw [← List.take_append_drop i L] at ha
    rcases List.mem_append.1 ha with ha | ha
    · exact klt_ne (ht a ha)
    · exact (klt_ne (hd a ha)).symm
theorem lay_kof {M : List Kv} (hK : KOf (L.map (·.1)) f) (hup : Kup (M.map (·.1))) (hm : ∀ x, x ∈ M.map (·.1) ↔ x = k ∨ x ∈ L.map (·.1)) (hl : l ≠ []) : KOf (M.map (·.1)) (upd f k l) := by
  refine ⟨hup, fun x => ?_⟩
  rw [hm]
  by_cases e : x = k
  · subst e; rw [upd_eq]; exact ⟨fun _ => hl, fun _ => .inl rfl⟩
  · rw [upd_ne e, ← hK.mem x]; exact ⟨fun q => q.resolve_left e, .inr⟩
theorem set_keys (hy : L[i]? = some y) : (L.set i (y.1, z)).map (·.1) = L.map (·.1) := by
  obtain ⟨hi, e⟩ := List.getElem?_eq_some_iff.1 hy
  rw [List.map_set]
  show (L.map (·.1)).set i y.1 = L.map (·.1)
  rw [← e]
  apply List.ext_getElem?
  intro j
  rw [List.getElem?_set]
  split
  · rename_i h; subst h; simp [hi]
  · rfl
theorem lay_new (hK : KOf (L.map (·.1)) f) (hup : Kup ((L.take i ++ [(k, (⟨none, 0, 0⟩ : SlT))] ++ L.drop i).map (·.1))) (hy : (L.take i ++ [(k, (⟨none, 0, 0⟩ : SlT))] ++ L.drop i)[i]? = some y) (hl : l ≠ []) : KOf (((L.take i ++ [(k, (⟨none, 0, 0⟩ : SlT))] ++ L.drop i).set i (y.1, z)).map (·.1)) (upd f k l) := by
  refine lay_kof hK ?_ (fun x => ?_) hl <;> rw [set_keys hy]
  · exact hup
  · have e : L.map (·.1) = (L.take i).map (·.1) ++ (L.drop i).map (·.1) := by rw [← List.map_append, List.take_append_drop]
    rw [e, List.map_append, List.map_append]
    simp only [List.mem_append, List.map_cons, List.map_nil, List.mem_singleton]
    constructor
    · rintro ((h | h) | h)
      · exact .inr (.inl h)
      · exact .inl h
      · exact .inr (.inr h)
    · rintro (h | h | h)
      · exact .inl (.inr h)
      · exact .inl (.inl h)
      · exact .inr h
theorem lay_key (hi : i ≤ L.length) (hy : (L.take i ++ [(k, (⟨none, 0, 0⟩ : SlT))] ++ L.drop i)[i]? = some y) : y.1 = k := by
  rw [List.append_assoc, List.getElem?_append_right (by rw [List.length_take]; omega), List.length_take, show i - min i L.length = 0 by omega] at hy
  simp at hy; rw [← hy]
theorem lay_old (hK : KOf (L.map (·.1)) f) (hy : L[i]? = some y) (hk : y.1 = k) (hl : l ≠ []) : KOf ((L.set i (y.1, z)).map (·.1)) (upd f k l) := by
  refine lay_kof hK ?_ (fun x => ?_) hl <;> rw [set_keys hy]
  · exact hK.up
  · constructor
    · exact .inr
    · rintro (h | h)
      · rw [h, ← hk]; exact List.mem_map_of_mem (List.mem_of_getElem? hy)
      · exact h
theorem from_old {j n : Nat} (h : ∀ g, (slV z).ownBlock = some g → n ≤ g) : ∀ a ∈ L.set j (k, z), (∃ b ∈ L, b.2 = a.2) ∨ ∀ g, (slV a.2).ownBlock = some g → n ≤ g := fun a ha => by
  rcases List.mem_or_eq_of_mem_set ha with ha | rfl
  · exact .inl ⟨a, ha, rfl⟩
  · exact .inr h
theorem from_new {j n : Nat} {k2 : ByteArray} (h : ∀ g, (slV z).ownBlock = some g → n ≤ g) : ∀ a ∈ (L.take i ++ [(k, (⟨none, 0, 0⟩ : SlT))] ++ L.drop i).set j (k2, z), (∃ b ∈ L, b.2 = a.2) ∨ ∀ g, (slV a.2).ownBlock = some g → n ≤ g := fun a ha => by
  rcases List.mem_or_eq_of_mem_set ha with ha | rfl
  · rcases List.mem_append.1 ha with ha | ha
    · rcases List.mem_append.1 ha with ha | ha
      · exact .inl ⟨a, List.mem_of_mem_take ha, rfl⟩
      · simp only [List.mem_singleton] at ha; subst ha; exact .inr fun g hg => by cases hg
    · exact .inl ⟨a, List.mem_of_mem_drop ha, rfl⟩
  · exact .inr h
theorem eqB_of {b : Bool} (h : (!b) = false) : b = true := by cases b with | true => rfl | false => cases h
theorem lay_step (h : ∀ a ∈ L.take i, klt a.1 k = true) (hy : L[i]? = some y) (hk : klt y.1 k = true) : ∀ a ∈ L.take (i + 1), klt a.1 k = true := by
  rw [takeO_at hy]
  intro a ha
  rcases List.mem_append.1 ha with ha | ha
  · exact h a ha
  · simp only [List.mem_singleton] at ha; subst ha; exact hk
end

end Go.Proofs.Ytfjhlckklgeokaa
