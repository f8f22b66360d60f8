/- Put together: MwA, MwB. Conditions: as each says. -/
import Derived.Test.YtfjhlckklgeokaaMvCLm
import Derived.Test.YtfjhlckklgeokaaLm4
import Derived.Test.YtfjhlckklgeokaaKeysG
import Derived.Test.YtfjhlckklgeokaaMvDLm
/- The document's store: Get. Conditions: at most 70000 keys. -/
namespace Go.Proofs.Ytfjhlckklgeokaa
open Go.RowKit Go.PlainAid
set_option linter.unusedVariables false
set_option linter.unusedSimpArgs false


def rwE (a : Kv) : List Value := [.string a.1, .slice a.2.a a.2.n a.2.c]
theorem rwE_len (a : Kv) : (rwE a).length = 2 := rfl
theorem rwE_one (a : Kv) : ∀ u ∈ rwE a, u.oneCell' = true := by intro u hu; simp [rwE] at hu; rcases hu with rfl | rfl <;> rfl
/-- A row's versions, where they lie. -/
def RwOk (w : World) (f : Fv) (a : Kv) : Prop := SliceOf cellE 3 w (slV a.2) (f a.1)
theorem at_nil (t : Int) : atS [] t = (ByteArray.empty, false) := rfl
theorem off_step {L : List Kv} {i : Nat} {y : Kv} {k : ByteArray} (h : ∀ a ∈ L.take i, a.1 ≠ k) (hy : L[i]? = some y) (hk : (y.1.toList == k.toList) = false) : ∀ a ∈ L.take (i + 1), a.1 ≠ k := by
  rw [takeO_at hy]
  intro a ha
  rcases List.mem_append.1 ha with ha | ha
  · exact h a ha
  · simp only [List.mem_singleton] at ha
    subst ha
    intro e; subst e; simp at hk
theorem toL_eq {a b : ByteArray} (h : (a.toList == b.toList) = true) : a = b := by
  rw [Go.ByteArray.toList_eq, Go.ByteArray.toList_eq] at h
  exact Go.WideShapes.bytes_inj (by simpa using h)
theorem none_of {L : List Kv} {f : Fv} {k : ByteArray} (hK : KOf (L.map (·.1)) f) (h : ∀ a ∈ L, a.1 ≠ k) : f k = [] := by
  by_cases e : f k = []
  · exact e
  · obtain ⟨a, ha, e2⟩ := List.mem_map.1 ((hK.mem k).2 e); exact absurd e2 (h a ha)

set_option maxRecDepth 100000 in
set_option maxHeartbeats 1600000 in
theorem rget_blk (d : Nat) (u : Value) (la : Int) (L : List Kv) (f : Fv) (n : Nat) (k : ByteArray) (t : Int) (w : World) (hB : Blk w d 31 #[u, .int .u64 la]) (hs : SliceOf rwE 2 w u L) (hok : ∀ z ∈ L, (fun a => RwOk w f a) z) (hK : KOf (L.map (·.1)) f) (hF : FOk f la n) (hL : L.length ≤ 70000) (hn : n ≤ 800) :
    Calls Try.prog 36 #[pt d 0, .string k, .int .u64 t] w fun e w' => e = .returned (.tuple #[.string ((atS (f k) t).1), .bool ((atS (f k) t).2)]) ∧ Below w.heap.size w w' := by
 have hB0 := Below.refl w.heap.size w
 have hl_hB := hB.lt
 have hl_hs := sl_len hs
 refine co_enter (n := 40) Try.func36 rfl rfl rfl [(0, pt d 0), (1, .string k), (2, .int .u64 t)] rfl (fun a h0 => ?_)
 refine co_seq ?_
 refine co_reg ?_
 refine pk0 (v := .string (⟨#[]⟩)) h0 rfl fun a1 h1 => ?_; clear h0
 refine pk0 (v := .bool false) h1 rfl fun a2 h2 => ?_; clear h1
 refine pl_nil ?_
 refine co_then ?_
 refine co_seq ?_
 refine co_seq ?_
 refine co_reg ?_
 refine pk0 (v := .int .i64 0) h2 rfl fun a3 h3 => ?_; clear h2
 refine pl_nil ?_
 refine co_then ?_
 refine wp_block ?_
 have hof9 : ∀ a ∈ L.take 0, a.1 ≠ k := fun a ha => by simp at ha
 have h4 : Slots 40 [(0, pt d 0), (1, .string k), (2, .int .u64 t), (8, .int .i64 0)] _ := h3.sub ⟨rfl, rfl, rfl, rfl, trivial⟩; clear h3
 refine co_loop (fun mm a x => ∃ (i : Nat), Slots 40 [(0, pt d 0), (1, .string k), (2, .int .u64 t), (8, .int .i64 ((i : Nat) : Int))] a ∧ mm = L.length - i ∧ (i ≤ L.length) ∧ (∀ a ∈ L.take i, a.1 ≠ k) ∧ Blk x d 31 #[u, .int .u64 la] ∧ Below w.heap.size w x) (L.length - 0) ?_ ?_
 · exact ⟨0, h4.sub ⟨rfl, rfl, rfl, (slot_eq rfl (congrArg (Value.int .i64) (by first | rfl | omega))), trivial⟩, rfl, by omega, by exact hof9, hB, hB0⟩
 · rintro k5 a6 w7 ⟨i, h6, rfl, hi8, hi9, hf10, hB11⟩
   have hz12 := hB11.size
   have hl13 := hf10.lt
   have hofA : ∀ a ∈ L.take i, a.1 ≠ k := by assumption
   refine co_seq ?_
   refine co_seq ?_
   refine co_reg ?_
   refine pk0 (v := .int .i64 ((i : Nat) : Int)) h6 rfl fun a14 h14 => ?_; clear h6
   refine pk0 (v := pt d 0) h14 rfl fun a15 h15 => ?_; clear h14
   refine pk0 (v := pt d 0) h15 rfl fun a16 h16 => ?_; clear h15
   refine pk0 (v := pt d 0) h16 rfl fun a17 h17 => ?_; clear h16
   refine pk (v := u) h17 rfl (rn_load1 rfl rfl Try.isAgg28 (hf10.cell rfl)) fun a18 h18 => ?_; clear h17
   refine pk (v := .int .i64 ((L.length : Nat) : Int)) h18 rfl (rn_len rfl rfl Try.underlying28 (hs.below hB11)) fun a19 h19 => ?_; clear h18
   refine pk0 (v := .bool (decide (((i : Nat) : Int) < ((L.length : Nat) : Int)))) h19 rfl fun a20 h20 => ?_; clear h19
   refine pl_nil ?_
   refine co_then ?_
   cases hc21 : (decide (((i : Nat) : Int) < ((L.length : Nat) : Int)))
   ·
    rw [hc21] at h20
    have hp22 : ¬ (((i : Nat) : Int) < ((L.length : Nat) : Int)) := of_decide_eq_false hc21
    clear hc21
    refine co_false h20 rfl ?_
    refine wp_exit ?_
    refine co_thenX ?_
    refine co_thenX ?_
    refine co_blockX ?_
    refine co_then ?_
    refine co_seq ?_
    refine co_reg ?_
    refine pk0 (v := .string (⟨#[]⟩)) h20 rfl fun a23 h23 => ?_; clear h20
    refine pk0 (v := .bool false) h23 rfl fun a24 h24 => ?_; clear h23
    refine pl_nil ?_
    refine co_then ?_
    refine wp_ret ?_
    refine co_ret2 h24 rfl rfl rfl ?_
    have hk9 : L.take i = L := List.take_of_length_le (by omega)
    rw [hk9] at hofA
    have he9 := none_of hK hofA
    exact ⟨by rw [he9]; rfl, hB11⟩
   ·
    rw [hc21] at h20
    have hp25 : ((i : Nat) : Int) < ((L.length : Nat) : Int) := of_decide_eq_true hc21
    clear hc21
    refine co_true h20 rfl ?_
    refine wp_skip ?_
    refine co_then ?_
    refine co_seq ?_
    refine wp_block ?_
    refine co_seq ?_
    refine co_reg ?_
    refine pk0 (v := pt d 0) h20 rfl fun a26 h26 => ?_; clear h20
    refine pk0 (v := pt d 0) h26 rfl fun a27 h27 => ?_; clear h26
    refine pk0 (v := pt d 0) h27 rfl fun a28 h28 => ?_; clear h27
    refine pk (v := u) h28 rfl (rn_load1 rfl rfl Try.isAgg28 (hf10.cell rfl)) fun a29 h29 => ?_; clear h28
    refine pk0 (v := .int .i64 ((i : Nat) : Int)) h29 rfl fun a30 h30 => ?_; clear h29
    obtain ⟨y31, hy31⟩ : ∃ z, L[i]? = some z := ⟨_, List.getElem?_eq_getElem (by first | omega | (simp; done) | (simp; omega))⟩
    have oky31 := hok _ (List.mem_of_getElem? hy31)
    refine pk (v := pt (blkOf u) (offOf u + i * 2)) h30 rfl (rn_index rfl rfl rfl Try.underlying28 Try.sizeOf80 (hs.below hB11) (by omega) (by first | omega | (simp; done) | (simp; omega))) fun a32 h32 => ?_; clear h30
    refine pk0 (v := pt (blkOf u) (offOf u + i * 2)) h32 rfl fun a33 h33 => ?_; clear h32
    refine pk (v := .string y31.1) h33 rfl (rn_load1 rfl rfl Try.isAgg9 ((sl_at (hs.below hB11) hy31) 0 _ rfl)) fun a34 h34 => ?_; clear h33
    refine pk0 (v := .string k) h34 rfl fun a35 h35 => ?_; clear h34
    refine pk0 (v := .bool (y31.1.toList == k.toList)) h35 rfl fun a36 h36 => ?_; clear h35
    refine pl_nil ?_
    refine co_then ?_
    cases hc37 : (y31.1.toList == k.toList)
    ·
     rw [hc37] at h36
     refine co_false h36 rfl ?_
     refine wp_skip ?_
     refine co_blockN ?_
     refine co_then ?_
     refine co_reg ?_
     refine pk0 (v := .int .i64 ((i : Nat) : Int)) h36 rfl fun a38 h38 => ?_; clear h36
     refine pk (v := .int .i64 ((i + 1 : Nat) : Int)) h38 rfl (rn_arith' rfl rfl rfl rfl rfl rfl (IntWalk.i64_in _ (by omega)) (by omega)) fun a39 h39 => ?_; clear h38
     refine pk0 (v := .int .i64 ((i + 1 : Nat) : Int)) h39 rfl fun a40 h40 => ?_; clear h39
     refine pl_nil ?_
     refine co_then ?_
     refine ⟨(L.length - (i + 1)), by omega, ?_⟩
     have hof9 := off_step hofA hy31 (by assumption)
     exact ⟨i + 1, h40.sub ⟨rfl, rfl, rfl, rfl, trivial⟩, rfl, by omega, by exact hof9, hf10, hB11⟩
    ·
     rw [hc37] at h36
     refine co_true h36 rfl ?_
     refine co_seq ?_
     refine co_reg ?_
     refine pk0 (v := pt d 0) h36 rfl fun a41 h41 => ?_; clear h36
     refine pk0 (v := pt d 0) h41 rfl fun a42 h42 => ?_; clear h41
     refine pk0 (v := pt d 0) h42 rfl fun a43 h43 => ?_; clear h42
     refine pk (v := u) h43 rfl (rn_load1 rfl rfl Try.isAgg28 (hf10.cell rfl)) fun a44 h44 => ?_; clear h43
     refine pk0 (v := .int .i64 ((i : Nat) : Int)) h44 rfl fun a45 h45 => ?_; clear h44
     refine pk (v := pt (blkOf u) (offOf u + i * 2)) h45 rfl (rn_index rfl rfl rfl Try.underlying28 Try.sizeOf80 (hs.below hB11) (by omega) (by first | omega | (simp; done) | (simp; omega))) fun a46 h46 => ?_; clear h45
     refine pk0 (v := pt (blkOf u) (offOf u + i * 2 + 1)) h46 rfl fun a47 h47 => ?_; clear h46
     refine pk (v := .slice y31.2.a y31.2.n y31.2.c) h47 rfl (rn_load1 rfl rfl Try.isAgg62 ((sl_at (hs.below hB11) hy31) 1 _ rfl)) fun a48 h48 => ?_; clear h47
     refine pk0 (v := .int .u64 t) h48 rfl fun a49 h49 => ?_; clear h48
     refine pw h49 rfl (op_call (args := #[.slice y31.2.a y31.2.n y31.2.c, .int .u64 t]) (R := fun res xw => res = .tuple #[.string (atS (f k) t).1, .bool (atS (f k) t).2] ∧ Below w7.heap.size w7 xw) rfl rfl rfl (by kernel_rfl) (by kernel_rfl) (Try.call49 _ _) (rat_any (.slice y31.2.a y31.2.n y31.2.c) (f y31.1) t w7 (SliceOf.below (show SliceOf cellE 3 _ (.slice y31.2.a y31.2.n y31.2.c) _ from oky31) hB11) (hF.ok _)) (by rintro e x ⟨rfl, h⟩; rw [toL_eq (by assumption : (y31.1.toList == k.toList) = true)]; exact ⟨_, rfl, rfl, h⟩)) ?_; clear h49
     rintro _ w51 a50 ⟨rfl, hb52⟩ h50
     have hz53 := hb52.size
     refine pk0 (v := .string ((atS (f k) t).1)) h50 rfl fun a54 h54 => ?_; clear h50
     refine pk0 (v := .bool ((atS (f k) t).2)) h54 rfl fun a55 h55 => ?_; clear h54
     refine pk0 (v := .string ((atS (f k) t).1)) h55 rfl fun a56 h56 => ?_; clear h55
     refine pk0 (v := .bool ((atS (f k) t).2)) h56 rfl fun a57 h57 => ?_; clear h56
     refine pl_nil ?_
     refine co_then ?_
     refine wp_ret ?_
     refine co_blockR ?_
     refine co_thenR ?_
     refine co_thenR ?_
     refine co_blockR ?_
     refine co_thenR ?_
     refine co_ret2 h57 rfl rfl rfl ?_
     have hB58 := hb_call hB11 hb52
     exact ⟨rfl, hB58⟩
end Go.Proofs.Ytfjhlckklgeokaa

/- The document's store: Scan, Cells. Conditions: at most 70000 keys. -/
namespace Go.Proofs.Ytfjhlckklgeokaa
open Go.RowKit Go.PlainAid
set_option linter.unusedVariables false
set_option linter.unusedSimpArgs false


def hitsL (f : Fv) (t : Int) (F T : ByteArray) (M : List Kv) : List PairT := hits f t ((M.map (·.1)).filter (inR F T))
section
variable {f : Fv} {t most : Int} {F T : ByteArray} {L : List Kv} {i : Nat} {y : Kv}
theorem hitsL_app (A B : List Kv) : hitsL f t F T (A ++ B) = hitsL f t F T A ++ hitsL f t F T B := by
  unfold hitsL hits; rw [List.map_append, List.filter_append, List.filter_append, List.map_append]
theorem hitsL_one (h : (atS (f y.1) t).2 = true) (hi : inR F T y.1 = true) : hitsL f t F T [y] = [(y.1, (atS (f y.1) t).1)] := by
  unfold hitsL hits; simp [List.filter_cons, hi, h]
theorem hitsL_none (h : (atS (f y.1) t).2 = false ∨ inR F T y.1 = false) : hitsL f t F T [y] = [] := by
  unfold hitsL hits
  rcases h with h | h
  · cases hi : inR F T y.1 <;> simp [List.filter_cons, hi, h]
  · simp [List.filter_cons, h]
theorem hitsL_yes (hy : L[i]? = some y) (h : (atS (f y.1) t).2 = true) (hi : inR F T y.1 = true) : hitsL f t F T (L.take i) ++ [(y.1, (atS (f y.1) t).1)] = hitsL f t F T (L.take (i + 1)) := by rw [takeO_at hy, hitsL_app, hitsL_one h hi]
theorem hitsL_no (hy : L[i]? = some y) (h : (atS (f y.1) t).2 = false ∨ inR F T y.1 = false) : hitsL f t F T (L.take i) = hitsL f t F T (L.take (i + 1)) := by rw [takeO_at hy, hitsL_app, hitsL_none h, List.append_nil]
theorem hitsL_le : (hitsL f t F T (L.take i)).length ≤ i := by
  unfold hitsL hits; rw [List.length_map]
  exact Nat.le_trans (List.length_filter_le _ _) (Nat.le_trans (List.length_filter_le _ _) (by rw [List.length_map, List.length_take]; omega))
theorem scanL_all {H : List PairT} (h : H = [] ∨ (H.length : Int) ≤ most) : H = scanL H most ∧ scanM H most = false := scan_all h
theorem scanL_cut (hy : L[i]? = some y) (h : (atS (f y.1) t).2 = true) (hi : inR F T y.1 = true) (hl : ¬ ((hitsL f t F T (L.take i)).length : Int) < most) (hm : hitsL f t F T (L.take i) = [] ∨ ((hitsL f t F T (L.take i)).length : Int) ≤ most) : hitsL f t F T (L.take i) = scanL (hitsL f t F T L) most ∧ scanM (hitsL f t F T L) most = true := by
  have e : hitsL f t F T L = hitsL f t F T (L.take i) ++ (y.1, (atS (f y.1) t).1) :: hitsL f t F T (L.drop (i + 1)) := by
    have e2 : hitsL f t F T L = hitsL f t F T (L.take (i + 1)) ++ hitsL f t F T (L.drop (i + 1)) := by rw [← hitsL_app, List.take_append_drop]
    rw [e2, ← hitsL_yes hy h hi]; simp
  have hn : most.toNat = (hitsL f t F T (L.take i)).length := by
    rcases hm with hm | hm
    · rw [hm] at hl ⊢; simp at hl ⊢; omega
    · omega
  unfold scanL scanM
  rw [hn, e]
  exact ⟨by simp, decide_eq_true (by simp)⟩
end
theorem klt_dataW {a b : ByteArray} : klt a b = Op.bytesLess a.data.toList b.data.toList := by unfold klt; rw [Go.ByteArray.toList_eq, Go.ByteArray.toList_eq]
theorem inR_data (F T k : ByteArray) : inL k.data.toList F.data.toList T.data.toList = inR F T k := by
  unfold inL inR hit
  rw [klt_dataW, Go.ByteArray.toList_eq, Go.ByteArray.toList_eq]
  cases T.data.toList with
  | nil => simp
  | cons a r => simp
/-- How many versions there are. -/
def csL (f : Fv) (M : List Kv) : Nat := (M.map fun a => (f a.1).length).sum
theorem csL_at {f : Fv} {L : List Kv} {i : Nat} {y : Kv} (hy : L[i]? = some y) : csL f (L.take i) + (f y.1).length = csL f (L.take (i + 1)) := by
  unfold csL; rw [takeO_at hy, List.map_append, List.sum_append]; simp
theorem csL_le {f : Fv} {la : Int} {n : Nat} (hF : FOk f la n) : ∀ L : List Kv, csL f L ≤ n * L.length
  | [] => Nat.zero_le _
  | a :: r => by
    have h1 := csL_le hF r; have h2 := hF.len a.1
    unfold csL at h1 ⊢
    simp only [List.map_cons, List.sum_cons, List.length_cons, Nat.mul_add, Nat.mul_one]; omega

set_option maxRecDepth 100000 in
set_option maxHeartbeats 3200000 in
theorem rscan_blk (d : Nat) (u : Value) (la : Int) (L : List Kv) (f : Fv) (n : Nat) (F : ByteArray) (T : ByteArray) (t : Int) (most : Int) (w : World) (hB : Blk w d 31 #[u, .int .u64 la]) (hs : SliceOf rwE 2 w u L) (hok : ∀ z ∈ L, (fun a => RwOk w f a) z) (hK : KOf (L.map (·.1)) f) (hF : FOk f la n) (hL : L.length ≤ 70000) (hn : n ≤ 800) (hmost : -9223372036854775808 ≤ most ∧ most ≤ 9223372036854775807) :
    Calls Try.prog 37 #[pt d 0, .string F, .string T, .int .u64 t, .int .i64 most] w fun e w' => ∃ (v : Value), e = .returned (.tuple #[v, .bool (scanM (hitsL f t F T L) most)]) ∧ w'.ownsRow w.heap.size 51 2 v (scanL (hitsL f t F T L) most).length ((scanL (hitsL f t F T L) most).flatMap pairE) ∧ Below w.heap.size w w' := by
 have hB0 := Below.refl w.heap.size w
 have hl_hB := hB.lt
 have hl_hs := sl_len hs
 refine co_enter (n := 74) Try.func37 rfl rfl rfl [(0, pt d 0), (1, .string F), (2, .string T), (3, .int .u64 t), (4, .int .i64 most)] rfl (fun a h0 => ?_)
 refine co_seq ?_
 refine co_reg ?_
 refine pk0 (v := .slice none 0 0) h0 rfl fun a1 h1 => ?_; clear h0
 refine pk0 (v := .bool false) h1 rfl fun a2 h2 => ?_; clear h1
 refine pl_nil ?_
 refine co_then ?_
 refine co_seq ?_
 refine co_reg ?_
 refine pk0 (v := .slice none 0 0) h2 rfl fun a3 h3 => ?_; clear h2
 refine pl_nil ?_
 refine co_then ?_
 refine co_seq ?_
 refine co_seq ?_
 refine co_reg ?_
 refine pk0 (v := .int .i64 0) h3 rfl fun a4 h4 => ?_; clear h3
 refine pl_nil ?_
 refine co_then ?_
 refine wp_block ?_
 have h5 : Slots 74 [(0, pt d 0), (1, .string F), (2, .string T), (3, .int .u64 t), (4, .int .i64 most), (10, .slice none 0 0), (11, .bool false), (12, .slice none 0 0), (13, .int .i64 0)] _ := h4.sub ⟨rfl, rfl, rfl, rfl, rfl, rfl, rfl, rfl, rfl, trivial⟩; clear h4
 refine co_loop (fun mm a x => ∃ (i : Nat) (v : Value), Slots 74 [(0, pt d 0), (1, .string F), (2, .string T), (3, .int .u64 t), (4, .int .i64 most), (10, .slice none 0 0), (11, .bool false), (12, v), (13, .int .i64 ((i : Nat) : Int))] a ∧ mm = L.length - i ∧ (i ≤ L.length) ∧ ((hitsL f t F T (L.take i)) = [] ∨ ((hitsL f t F T (L.take i)).length : Int) ≤ most) ∧ Blk x d 31 #[u, .int .u64 la] ∧ x.ownsRow w.heap.size 51 2 v (hitsL f t F T (L.take i)).length ((hitsL f t F T (L.take i)).flatMap pairE) ∧ Below w.heap.size w x) (L.length - 0) ?_ ?_
 · exact ⟨0, (.slice none 0 0), h5.sub ⟨rfl, rfl, rfl, rfl, rfl, rfl, rfl, rfl, (slot_eq rfl (congrArg (Value.int .i64) (by first | rfl | omega))), trivial⟩, rfl, by omega, by first | exact .inl rfl | (rw [← hitsL_yes (by assumption) (by assumption) (by assumption)]; right; rw [List.length_append, List.length_singleton]; omega) | (rw [← hitsL_no (by assumption) (.inl (by assumption))]; assumption) | (rw [← hitsL_no (by assumption) (.inr (by assumption))]; assumption), hB, (row_nilL _ _ _ _ _), hB0⟩
 · rintro k6 a7 w8 ⟨i, v, h7, rfl, hi9, hi10, hf11, hf12, hB13⟩
   have hz14 := hB13.size
   have hl15 := hf11.lt
   have hhl := hitsL_le (f := f) (t := t) (F := F) (T := T) (L := L) (i := i)
   refine co_seq ?_
   refine co_seq ?_
   refine co_reg ?_
   refine pk0 (v := .int .i64 ((i : Nat) : Int)) h7 rfl fun a16 h16 => ?_; clear h7
   refine pk0 (v := pt d 0) h16 rfl fun a17 h17 => ?_; clear h16
   refine pk0 (v := pt d 0) h17 rfl fun a18 h18 => ?_; clear h17
   refine pk0 (v := pt d 0) h18 rfl fun a19 h19 => ?_; clear h18
   refine pk (v := u) h19 rfl (rn_load1 rfl rfl Try.isAgg28 (hf11.cell rfl)) fun a20 h20 => ?_; clear h19
   refine pk (v := .int .i64 ((L.length : Nat) : Int)) h20 rfl (rn_len rfl rfl Try.underlying28 (hs.below hB13)) fun a21 h21 => ?_; clear h20
   refine pk0 (v := .bool (decide (((i : Nat) : Int) < ((L.length : Nat) : Int)))) h21 rfl fun a22 h22 => ?_; clear h21
   refine pl_nil ?_
   refine co_then ?_
   cases hc23 : (decide (((i : Nat) : Int) < ((L.length : Nat) : Int)))
   ·
    rw [hc23] at h22
    have hp24 : ¬ (((i : Nat) : Int) < ((L.length : Nat) : Int)) := of_decide_eq_false hc23
    clear hc23
    refine co_false h22 rfl ?_
    refine wp_exit ?_
    refine co_thenX ?_
    refine co_thenX ?_
    refine co_blockX ?_
    refine co_then ?_
    refine co_seq ?_
    refine co_reg ?_
    refine pk0 (v := v) h22 rfl fun a25 h25 => ?_; clear h22
    refine pk0 (v := v) h25 rfl fun a26 h26 => ?_; clear h25
    refine pk0 (v := .bool false) h26 rfl fun a27 h27 => ?_; clear h26
    refine pl_nil ?_
    refine co_then ?_
    refine wp_ret ?_
    refine co_ret2 h27 rfl rfl rfl ?_
    have hk9 : L.take i = L := List.take_of_length_le (by omega); have hq := scanL_all (most := most) (H := (hitsL f t F T (L.take i))) (by assumption); rw [hk9] at hq
    exact ⟨_, by rw [hq.2], row_eq hf12 (by rw [hk9]; exact hq.1), hB13⟩
   ·
    rw [hc23] at h22
    have hp28 : ((i : Nat) : Int) < ((L.length : Nat) : Int) := of_decide_eq_true hc23
    clear hc23
    refine co_true h22 rfl ?_
    refine wp_skip ?_
    refine co_then ?_
    refine co_seq ?_
    refine wp_block ?_
    refine co_seq ?_
    refine co_reg ?_
    refine pk0 (v := pt d 0) h22 rfl fun a29 h29 => ?_; clear h22
    refine pk0 (v := pt d 0) h29 rfl fun a30 h30 => ?_; clear h29
    refine pk0 (v := pt d 0) h30 rfl fun a31 h31 => ?_; clear h30
    refine pk (v := u) h31 rfl (rn_load1 rfl rfl Try.isAgg28 (hf11.cell rfl)) fun a32 h32 => ?_; clear h31
    refine pk0 (v := .int .i64 ((i : Nat) : Int)) h32 rfl fun a33 h33 => ?_; clear h32
    obtain ⟨y34, hy34⟩ : ∃ z, L[i]? = some z := ⟨_, List.getElem?_eq_getElem (by first | omega | (simp; done) | (simp; omega))⟩
    have oky34 := hok _ (List.mem_of_getElem? hy34)
    refine pk (v := pt (blkOf u) (offOf u + i * 2)) h33 rfl (rn_index rfl rfl rfl Try.underlying28 Try.sizeOf80 (hs.below hB13) (by omega) (by first | omega | (simp; done) | (simp; omega))) fun a35 h35 => ?_; clear h33
    refine pk0 (v := pt (blkOf u) (offOf u + i * 2 + 1)) h35 rfl fun a36 h36 => ?_; clear h35
    refine pk (v := .slice y34.2.a y34.2.n y34.2.c) h36 rfl (rn_load1 rfl rfl Try.isAgg62 ((sl_at (hs.below hB13) hy34) 1 _ rfl)) fun a37 h37 => ?_; clear h36
    refine pk0 (v := .int .u64 t) h37 rfl fun a38 h38 => ?_; clear h37
    refine pw h38 rfl (op_call (args := #[.slice y34.2.a y34.2.n y34.2.c, .int .u64 t]) (R := fun res xw => res = .tuple #[.string (atS (f y34.1) t).1, .bool (atS (f y34.1) t).2] ∧ Below w8.heap.size w8 xw) rfl rfl rfl (by kernel_rfl) (by kernel_rfl) (Try.call49 _ _) (rat_any (.slice y34.2.a y34.2.n y34.2.c) (f y34.1) t w8 (SliceOf.below (show SliceOf cellE 3 _ (.slice y34.2.a y34.2.n y34.2.c) _ from oky34) hB13) (hF.ok _)) (by rintro e x ⟨rfl, h⟩; exact ⟨_, rfl, rfl, h⟩)) ?_; clear h38
    rintro _ w40 a39 ⟨rfl, hb41⟩ h39
    have hz42 := hb41.size
    refine pk0 (v := .tuple #[.string ((atS (f y34.1) t).1), .bool ((atS (f y34.1) t).2)]) h39 rfl fun a43 h43 => ?_; clear h39
    refine pk0 (v := .string ((atS (f y34.1) t).1)) h43 rfl fun a44 h44 => ?_; clear h43
    refine pk0 (v := .bool ((atS (f y34.1) t).2)) h44 rfl fun a45 h45 => ?_; clear h44
    refine pk0 (v := .string ((atS (f y34.1) t).1)) h45 rfl fun a46 h46 => ?_; clear h45
    refine pk0 (v := .bool ((atS (f y34.1) t).2)) h46 rfl fun a47 h47 => ?_; clear h46
    refine pl_nil ?_
    refine co_then ?_
    refine co_seq ?_
    refine co_seq ?_
    refine co_reg ?_
    refine pk0 (v := .bool ((atS (f y34.1) t).2)) h47 rfl fun a48 h48 => ?_; clear h47
    have hB50 := hb_call hB13 hb41
    cases hc49 : ((atS (f y34.1) t).2)
    ·
     rw [hc49] at h48
     refine pk0 (v := .bool true) h48 rfl fun a51 h51 => ?_; clear h48
     refine pk0 (v := .bool true) h51 rfl fun a52 h52 => ?_; clear h51
     refine psk h52 rfl fun a53 h53 => ?_; clear h52
     refine psk h53 rfl fun a54 h54 => ?_; clear h53
     refine psk h54 rfl fun a55 h55 => ?_; clear h54
     refine psk h55 rfl fun a56 h56 => ?_; clear h55
     refine psk h56 rfl fun a57 h57 => ?_; clear h56
     refine psk h57 rfl fun a58 h58 => ?_; clear h57
     refine psk h58 rfl fun a59 h59 => ?_; clear h58
     refine psk h59 rfl fun a60 h60 => ?_; clear h59
     refine psk h60 rfl fun a61 h61 => ?_; clear h60
     refine psk h61 rfl fun a62 h62 => ?_; clear h61
     refine psk h62 rfl fun a63 h63 => ?_; clear h62
     refine psk h63 rfl fun a64 h64 => ?_; clear h63
     refine pk0 (v := .bool true) h64 rfl fun a65 h65 => ?_; clear h64
     refine pl_nil ?_
     refine co_then ?_
     refine co_true h65 rfl ?_
     refine wp_exit ?_
     refine co_thenX ?_
     refine co_blockX ?_
     refine co_then ?_
     refine co_reg ?_
     refine pk0 (v := .int .i64 ((i : Nat) : Int)) h65 rfl fun a66 h66 => ?_; clear h65
     refine pk (v := .int .i64 ((i + 1 : Nat) : Int)) h66 rfl (rn_arith' rfl rfl rfl rfl rfl rfl (IntWalk.i64_in _ (by omega)) (by omega)) fun a67 h67 => ?_; clear h66
     refine pk0 (v := .int .i64 ((i + 1 : Nat) : Int)) h67 rfl fun a68 h68 => ?_; clear h67
     refine pl_nil ?_
     refine co_then ?_
     refine ⟨(L.length - (i + 1)), by omega, ?_⟩
     have hk69 := hf11.below hb41
     have hr70 := row_kept_new hf12 (below_grown hb41)
     exact ⟨i + 1, v, h68.sub ⟨rfl, rfl, rfl, rfl, rfl, rfl, rfl, rfl, rfl, trivial⟩, rfl, by omega, by first | exact .inl rfl | (rw [← hitsL_yes (by assumption) (by assumption) (by assumption)]; right; rw [List.length_append, List.length_singleton]; omega) | (rw [← hitsL_no (by assumption) (.inl (by assumption))]; assumption) | (rw [← hitsL_no (by assumption) (.inr (by assumption))]; assumption), hk69, (row_eq hr70 (by first | rfl | exact hitsL_yes (by assumption) (by assumption) (by assumption) | exact hitsL_no (by assumption) (.inl (by assumption)) | exact hitsL_no (by assumption) (.inr (by assumption)) | exact hitsL_no (by assumption) (.inl (by simpa using (by assumption))))), hB50⟩
    ·
     rw [hc49] at h48
     refine pk0 (v := .bool false) h48 rfl fun a71 h71 => ?_; clear h48
     refine pk0 (v := .bool false) h71 rfl fun a72 h72 => ?_; clear h71
     refine pk0 (v := pt d 0) h72 rfl fun a73 h73 => ?_; clear h72
     refine pk0 (v := pt d 0) h73 rfl fun a74 h74 => ?_; clear h73
     refine pk0 (v := pt d 0) h74 rfl fun a75 h75 => ?_; clear h74
     have hk76 := hf11.below hb41
     refine pk (v := u) h75 rfl (rn_load1 rfl rfl Try.isAgg28 (hk76.cell rfl)) fun a77 h77 => ?_; clear h75
     refine pk0 (v := .int .i64 ((i : Nat) : Int)) h77 rfl fun a78 h78 => ?_; clear h77
     refine pk (v := pt (blkOf u) (offOf u + i * 2)) h78 rfl (rn_index rfl rfl rfl Try.underlying28 Try.sizeOf80 (hs.below hB50) (by omega) (by first | omega | (simp; done) | (simp; omega))) fun a79 h79 => ?_; clear h78
     refine pk0 (v := pt (blkOf u) (offOf u + i * 2)) h79 rfl fun a80 h80 => ?_; clear h79
     refine pk (v := .string y34.1) h80 rfl (rn_load1 rfl rfl Try.isAgg9 ((sl_at (hs.below hB50) hy34) 0 _ rfl)) fun a81 h81 => ?_; clear h80
     refine pk0 (v := .string F) h81 rfl fun a82 h82 => ?_; clear h81
     refine pk0 (v := .string T) h82 rfl fun a83 h83 => ?_; clear h82
     refine pw h83 rfl (op_call (args := #[.string y34.1, .string F, .string T]) (R := fun res xw => res = .bool (inR F T y34.1) ∧ w40 = xw) rfl rfl rfl (by kernel_rfl) (by kernel_rfl) (Try.call50 _ _) (rin_any y34.1 F T w40) (by rintro e x ⟨rfl, rfl⟩; exact ⟨_, rfl, by rw [inR_data], rfl⟩)) ?_; clear h83
     rintro _ _ a84 ⟨rfl, rfl⟩ h84
     cases hc86 : ((inR F T y34.1))
     ·
      rw [hc86] at h84
      refine pk0 (v := .bool true) h84 rfl fun a87 h87 => ?_; clear h84
      refine pk0 (v := .bool true) h87 rfl fun a88 h88 => ?_; clear h87
      refine pl_nil ?_
      refine co_then ?_
      refine co_true h88 rfl ?_
      refine wp_exit ?_
      refine co_thenX ?_
      refine co_blockX ?_
      refine co_then ?_
      refine co_reg ?_
      refine pk0 (v := .int .i64 ((i : Nat) : Int)) h88 rfl fun a89 h89 => ?_; clear h88
      refine pk (v := .int .i64 ((i + 1 : Nat) : Int)) h89 rfl (rn_arith' rfl rfl rfl rfl rfl rfl (IntWalk.i64_in _ (by omega)) (by omega)) fun a90 h90 => ?_; clear h89
      refine pk0 (v := .int .i64 ((i + 1 : Nat) : Int)) h90 rfl fun a91 h91 => ?_; clear h90
      refine pl_nil ?_
      refine co_then ?_
      refine ⟨(L.length - (i + 1)), by omega, ?_⟩
      have hr92 := row_kept_new hf12 (below_grown hb41)
      exact ⟨i + 1, v, h91.sub ⟨rfl, rfl, rfl, rfl, rfl, rfl, rfl, rfl, rfl, trivial⟩, rfl, by omega, by first | exact .inl rfl | (rw [← hitsL_yes (by assumption) (by assumption) (by assumption)]; right; rw [List.length_append, List.length_singleton]; omega) | (rw [← hitsL_no (by assumption) (.inl (by assumption))]; assumption) | (rw [← hitsL_no (by assumption) (.inr (by assumption))]; assumption), hk76, (row_eq hr92 (by first | rfl | exact hitsL_yes (by assumption) (by assumption) (by assumption) | exact hitsL_no (by assumption) (.inl (by assumption)) | exact hitsL_no (by assumption) (.inr (by assumption)) | exact hitsL_no (by assumption) (.inl (by simpa using (by assumption))))), hB50⟩
     ·
      rw [hc86] at h84
      refine pk0 (v := .bool false) h84 rfl fun a93 h93 => ?_; clear h84
      refine pk0 (v := .bool false) h93 rfl fun a94 h94 => ?_; clear h93
      refine pl_nil ?_
      refine co_then ?_
      refine co_false h94 rfl ?_
      refine wp_skip ?_
      refine co_then ?_
      refine co_seq ?_
      refine co_seq ?_
      refine co_reg ?_
      refine pk0 (v := v) h94 rfl fun a95 h95 => ?_; clear h94
      have hr96 := row_kept_new hf12 (below_grown hb41)
      refine pk (v := .int .i64 (((hitsL f t F T (L.take i)).length : Nat) : Int)) h95 rfl (rn_lenOwn rfl rfl Try.underlying44 hr96) fun a97 h97 => ?_; clear h95
      refine pk0 (v := .int .i64 most) h97 rfl fun a98 h98 => ?_; clear h97
      obtain ⟨kp99, hkp100⟩ : ∃ z : Int, z = (if most < 0 then 0 else most) := ⟨_, rfl⟩
      have hq101 : kp99 ≥ most ∧ kp99 ≥ 0 ∧ (kp99 = most ∨ kp99 = 0) := by rw [hkp100]; split <;> omega
      refine pk (v := .int .i64 kp99) h98 rfl (by rw [hkp100]; kernel_rfl) fun a102 h102 => ?_; clear h98
      refine pk0 (v := .bool (decide ((((hitsL f t F T (L.take i)).length : Nat) : Int) ≥ kp99))) h102 rfl fun a103 h103 => ?_; clear h102
      refine pl_nil ?_
      refine co_then ?_
      cases hc104 : (decide ((((hitsL f t F T (L.take i)).length : Nat) : Int) ≥ kp99))
      ·
       rw [hc104] at h103
       have hp105 : ¬ ((((hitsL f t F T (L.take i)).length : Nat) : Int) ≥ kp99) := of_decide_eq_false hc104
       clear hc104
       refine co_false h103 rfl ?_
       refine wp_skip ?_
       refine co_then ?_
       refine co_reg ?_
       refine pk0 (v := v) h103 rfl fun a106 h106 => ?_; clear h103
       refine pk0 (v := pt d 0) h106 rfl fun a107 h107 => ?_; clear h106
       refine pk0 (v := pt d 0) h107 rfl fun a108 h108 => ?_; clear h107
       refine pk0 (v := pt d 0) h108 rfl fun a109 h109 => ?_; clear h108
       refine pk (v := u) h109 rfl (rn_load1 rfl rfl Try.isAgg28 (hk76.cell rfl)) fun a110 h110 => ?_; clear h109
       refine pk0 (v := .int .i64 ((i : Nat) : Int)) h110 rfl fun a111 h111 => ?_; clear h110
       refine pk (v := pt (blkOf u) (offOf u + i * 2)) h111 rfl (rn_index rfl rfl rfl Try.underlying28 Try.sizeOf80 (hs.below hB50) (by omega) (by first | omega | (simp; done) | (simp; omega))) fun a112 h112 => ?_; clear h111
       refine pk0 (v := pt (blkOf u) (offOf u + i * 2)) h112 rfl fun a113 h113 => ?_; clear h112
       refine pk (v := .string y34.1) h113 rfl (rn_load1 rfl rfl Try.isAgg9 ((sl_at (hs.below hB50) hy34) 0 _ rfl)) fun a114 h114 => ?_; clear h113
       refine pk0 (v := .string ((atS (f y34.1) t).1)) h114 rfl fun a115 h115 => ?_; clear h114
       refine pk0 (v := .agg #[.string y34.1, .string ((atS (f y34.1) t).1)]) h115 rfl fun a116 h116 => ?_; clear h115
       refine pw h116 rfl (op_new (v := fun N => .slice (some ⟨N, 0, none⟩) 1 1) (T := 51) (cs := #[.string y34.1, .string ((atS (f y34.1) t).1)]) (by kernel_rfl) (by kernel_rfl) (by kernel_rfl)) ?_; clear h116
       rintro _ w118 a117 ⟨N119, rfl, hN122, hz123, hk121, hg120⟩ h117
       have ha124 := row_fresh hr96 hN122
       have hz125 := hg120.size
       try dsimp only at h117
       have hr132 := row_kept_new hr96 hg120
       refine pw h117 rfl (op_append rfl w.heap.size 51 (z := .agg #[.string (⟨#[]⟩), .string (⟨#[]⟩)]) (size := 2) (bytes := 32) Try.underlying44 (by kernel_rfl) rfl rfl rfl hr132 rfl hk121 rfl (by kernel_rfl) (by first | omega | (simp only [List.length_nil, List.length_append, List.length_cons, List.length_take, List.length_drop]; omega)) (by first | omega | (simp only [List.length_nil, List.length_append, List.length_cons, List.length_take, List.length_drop]; omega)) (by omega)) ?_; clear h117
       rintro v128 w127 a126 ⟨hr129, hg130⟩ h126
       have hr129' : w127.ownsRow w.heap.size 51 2 v128 (((hitsL f t F T (L.take i)) ++ [(y34.1, (atS (f y34.1) t).1)]).length) (((hitsL f t F T (L.take i)) ++ [(y34.1, (atS (f y34.1) t).1)]).flatMap pairE) := row_push (y := (y34.1, (atS (f y34.1) t).1)) hr129 rfl rfl; clear hr129
       have hz133 := hg130.size
       refine pk0 (v := v128) h126 rfl fun a134 h134 => ?_; clear h126
       refine pl_nil ?_
       refine co_blockN ?_
       refine co_then ?_
       refine co_reg ?_
       refine pk0 (v := .int .i64 ((i : Nat) : Int)) h134 rfl fun a135 h135 => ?_; clear h134
       refine pk (v := .int .i64 ((i + 1 : Nat) : Int)) h135 rfl (rn_arith' rfl rfl rfl rfl rfl rfl (IntWalk.i64_in _ (by omega)) (by omega)) fun a136 h136 => ?_; clear h135
       refine pk0 (v := .int .i64 ((i + 1 : Nat) : Int)) h136 rfl fun a137 h137 => ?_; clear h136
       refine pl_nil ?_
       refine co_then ?_
       refine ⟨(L.length - (i + 1)), by omega, ?_⟩
       have hk138 := hk76.kept hg120 (by simp)
       have hk139 := hk138.kept hg130 (own_neT hr132 hk138 (by decide))
       have hB140 := hb_new hB50 hg120
       have hB141 := hb_row hB140 hr132 (by omega) hg130
       exact ⟨i + 1, v128, h137.sub ⟨rfl, rfl, rfl, rfl, rfl, rfl, rfl, rfl, rfl, trivial⟩, rfl, by omega, by first | exact .inl rfl | (rw [← hitsL_yes (by assumption) (by assumption) (by assumption)]; right; rw [List.length_append, List.length_singleton]; omega) | (rw [← hitsL_no (by assumption) (.inl (by assumption))]; assumption) | (rw [← hitsL_no (by assumption) (.inr (by assumption))]; assumption), hk139, (row_eq hr129' (by first | rfl | exact hitsL_yes (by assumption) (by assumption) (by assumption) | exact hitsL_no (by assumption) (.inl (by assumption)) | exact hitsL_no (by assumption) (.inr (by assumption)) | exact hitsL_no (by assumption) (.inl (by simpa using (by assumption))))), hB141⟩
      ·
       rw [hc104] at h103
       have hp142 : (((hitsL f t F T (L.take i)).length : Nat) : Int) ≥ kp99 := of_decide_eq_true hc104
       clear hc104
       refine co_true h103 rfl ?_
       refine co_seq ?_
       refine co_reg ?_
       refine pk0 (v := v) h103 rfl fun a143 h143 => ?_; clear h103
       refine pk0 (v := v) h143 rfl fun a144 h144 => ?_; clear h143
       refine pk0 (v := .bool true) h144 rfl fun a145 h145 => ?_; clear h144
       refine pl_nil ?_
       refine co_then ?_
       refine wp_ret ?_
       refine co_thenR ?_
       refine co_blockR ?_
       refine co_thenR ?_
       refine co_thenR ?_
       refine co_blockR ?_
       refine co_thenR ?_
       refine co_ret2 h145 rfl rfl rfl ?_
       have hq := scanL_cut (most := most) (by assumption) (by assumption : (atS (f _) t).2 = true) (by assumption) (by omega) (by assumption)
       exact ⟨_, by rw [hq.2], row_eq hr96 hq.1, hB50⟩
set_option maxRecDepth 100000 in
set_option maxHeartbeats 1600000 in
theorem rcells_blk (d : Nat) (u : Value) (la : Int) (L : List Kv) (f : Fv) (n : Nat) (w : World) (hB : Blk w d 31 #[u, .int .u64 la]) (hs : SliceOf rwE 2 w u L) (hok : ∀ z ∈ L, (fun a => RwOk w f a) z) (hK : KOf (L.map (·.1)) f) (hF : FOk f la n) (hL : L.length ≤ 70000) (hn : n ≤ 800) :
    Calls Try.prog 18 #[pt d 0] w fun e w' => e = .returned (.int .i64 ((csL f L : Nat) : Int)) ∧ Below w.heap.size w w' := by
 have hB0 := Below.refl w.heap.size w
 have hl_hB := hB.lt
 have hl_hs := sl_len hs
 refine co_enter (n := 26) Try.func18 rfl rfl rfl [(0, pt d 0)] rfl (fun a h0 => ?_)
 refine co_seq ?_
 refine co_reg ?_
 refine pk0 (v := .int .i64 0) h0 rfl fun a1 h1 => ?_; clear h0
 refine pl_nil ?_
 refine co_then ?_
 refine co_seq ?_
 refine co_reg ?_
 refine pk0 (v := .int .i64 0) h1 rfl fun a2 h2 => ?_; clear h1
 refine pl_nil ?_
 refine co_then ?_
 refine co_seq ?_
 refine co_seq ?_
 refine co_reg ?_
 refine pk0 (v := .int .i64 0) h2 rfl fun a3 h3 => ?_; clear h2
 refine pl_nil ?_
 refine co_then ?_
 refine wp_block ?_
 have hcs0 : csL f (L.take 0) = 0 := rfl
 have h4 : Slots 26 [(0, pt d 0), (3, .int .i64 0), (4, .int .i64 0)] _ := h3.sub ⟨rfl, rfl, rfl, trivial⟩; clear h3
 refine co_loop (fun mm a x => ∃ (i : Nat) (m : Nat), Slots 26 [(0, pt d 0), (3, .int .i64 ((m : Nat) : Int)), (4, .int .i64 ((i : Nat) : Int))] a ∧ mm = L.length - i ∧ (i ≤ L.length) ∧ (m = csL f (L.take i)) ∧ Blk x d 31 #[u, .int .u64 la] ∧ Below w.heap.size w x) (L.length - 0) ?_ ?_
 · exact ⟨0, 0, h4.sub ⟨rfl, (slot_eq rfl (congrArg (Value.int .i64) (by first | rfl | omega))), (slot_eq rfl (congrArg (Value.int .i64) (by first | rfl | omega))), trivial⟩, rfl, by omega, by first | exact hcs0.symm | omega, hB, hB0⟩
 · rintro k5 a6 w7 ⟨i, m, h6, rfl, hi8, hi9, hf10, hB11⟩
   have hz12 := hB11.size
   have hl13 := hf10.lt
   have hcl := csL_le hF (L.take i)
   have hcl2 : n * (L.take i).length ≤ 800 * 70000 := Nat.mul_le_mul hn (by rw [List.length_take]; omega)
   have hcl3 : m ≤ 56000000 := by omega
   refine co_seq ?_
   refine co_seq ?_
   refine co_reg ?_
   refine pk0 (v := .int .i64 ((i : Nat) : Int)) h6 rfl fun a14 h14 => ?_; clear h6
   refine pk0 (v := pt d 0) h14 rfl fun a15 h15 => ?_; clear h14
   refine pk0 (v := pt d 0) h15 rfl fun a16 h16 => ?_; clear h15
   refine pk0 (v := pt d 0) h16 rfl fun a17 h17 => ?_; clear h16
   refine pk (v := u) h17 rfl (rn_load1 rfl rfl Try.isAgg28 (hf10.cell rfl)) fun a18 h18 => ?_; clear h17
   refine pk (v := .int .i64 ((L.length : Nat) : Int)) h18 rfl (rn_len rfl rfl Try.underlying28 (hs.below hB11)) fun a19 h19 => ?_; clear h18
   refine pk0 (v := .bool (decide (((i : Nat) : Int) < ((L.length : Nat) : Int)))) h19 rfl fun a20 h20 => ?_; clear h19
   refine pl_nil ?_
   refine co_then ?_
   cases hc21 : (decide (((i : Nat) : Int) < ((L.length : Nat) : Int)))
   ·
    rw [hc21] at h20
    have hp22 : ¬ (((i : Nat) : Int) < ((L.length : Nat) : Int)) := of_decide_eq_false hc21
    clear hc21
    refine co_false h20 rfl ?_
    refine wp_exit ?_
    refine co_thenX ?_
    refine co_thenX ?_
    refine co_blockX ?_
    refine co_then ?_
    refine co_seq ?_
    refine co_reg ?_
    refine pk0 (v := .int .i64 ((m : Nat) : Int)) h20 rfl fun a23 h23 => ?_; clear h20
    refine pk0 (v := .int .i64 ((m : Nat) : Int)) h23 rfl fun a24 h24 => ?_; clear h23
    refine pl_nil ?_
    refine co_then ?_
    refine wp_ret ?_
    refine co_ret1 h24 rfl rfl ?_
    have hk9 : L.take i = L := List.take_of_length_le (by omega)
    have hm9 : m = csL f L := by rw [← hk9]; assumption
    exact ⟨by rw [hm9], hB11⟩
   ·
    rw [hc21] at h20
    have hp25 : ((i : Nat) : Int) < ((L.length : Nat) : Int) := of_decide_eq_true hc21
    clear hc21
    refine co_true h20 rfl ?_
    refine wp_skip ?_
    refine co_then ?_
    refine co_seq ?_
    refine wp_block ?_
    refine co_reg ?_
    refine pk0 (v := .int .i64 ((m : Nat) : Int)) h20 rfl fun a26 h26 => ?_; clear h20
    refine pk0 (v := pt d 0) h26 rfl fun a27 h27 => ?_; clear h26
    refine pk0 (v := pt d 0) h27 rfl fun a28 h28 => ?_; clear h27
    refine pk0 (v := pt d 0) h28 rfl fun a29 h29 => ?_; clear h28
    refine pk (v := u) h29 rfl (rn_load1 rfl rfl Try.isAgg28 (hf10.cell rfl)) fun a30 h30 => ?_; clear h29
    refine pk0 (v := .int .i64 ((i : Nat) : Int)) h30 rfl fun a31 h31 => ?_; clear h30
    obtain ⟨y32, hy32⟩ : ∃ z, L[i]? = some z := ⟨_, List.getElem?_eq_getElem (by first | omega | (simp; done) | (simp; omega))⟩
    have oky32 := hok _ (List.mem_of_getElem? hy32)
    have hfly32 := hF.len y32.1
    refine pk (v := pt (blkOf u) (offOf u + i * 2)) h31 rfl (rn_index rfl rfl rfl Try.underlying28 Try.sizeOf80 (hs.below hB11) (by omega) (by first | omega | (simp; done) | (simp; omega))) fun a33 h33 => ?_; clear h31
    refine pk0 (v := pt (blkOf u) (offOf u + i * 2 + 1)) h33 rfl fun a34 h34 => ?_; clear h33
    refine pk (v := .slice y32.2.a y32.2.n y32.2.c) h34 rfl (rn_load1 rfl rfl Try.isAgg62 ((sl_at (hs.below hB11) hy32) 1 _ rfl)) fun a35 h35 => ?_; clear h34
    refine pk (v := .int .i64 (((f y32.1).length : Nat) : Int)) h35 rfl (rn_len rfl rfl Try.underlying62 (SliceOf.below (show SliceOf cellE 3 _ (.slice y32.2.a y32.2.n y32.2.c) _ from oky32) hB11)) fun a36 h36 => ?_; clear h35
    refine pk (v := .int .i64 ((m + (f y32.1).length : Nat) : Int)) h36 rfl (rn_arith' rfl rfl rfl rfl rfl rfl (IntWalk.i64_in _ (by omega)) (by omega)) fun a37 h37 => ?_; clear h36
    refine pk0 (v := .int .i64 ((m + (f y32.1).length : Nat) : Int)) h37 rfl fun a38 h38 => ?_; clear h37
    refine pl_nil ?_
    refine co_blockN ?_
    refine co_then ?_
    refine co_reg ?_
    refine pk0 (v := .int .i64 ((i : Nat) : Int)) h38 rfl fun a39 h39 => ?_; clear h38
    refine pk (v := .int .i64 ((i + 1 : Nat) : Int)) h39 rfl (rn_arith' rfl rfl rfl rfl rfl rfl (IntWalk.i64_in _ (by omega)) (by omega)) fun a40 h40 => ?_; clear h39
    refine pk0 (v := .int .i64 ((i + 1 : Nat) : Int)) h40 rfl fun a41 h41 => ?_; clear h40
    refine pl_nil ?_
    refine co_then ?_
    refine ⟨(L.length - (i + 1)), by omega, ?_⟩
    have hcs9 := csL_at (f := f) hy32
    exact ⟨i + 1, (m + (f y32.1).length), h41.sub ⟨rfl, rfl, rfl, trivial⟩, rfl, by omega, by first | exact hcs0.symm | omega, hf10, hB11⟩
end Go.Proofs.Ytfjhlckklgeokaa
