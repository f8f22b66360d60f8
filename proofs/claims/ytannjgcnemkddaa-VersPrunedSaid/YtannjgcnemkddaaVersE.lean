/- Package vers: what Put answers. Conditions: lists of at most 900 versions. -/
import Derived.Test.YtannjgcnemkddaaVersD
import Derived.Deep.AppendLies
import Derived.Deep.RegionLaw
namespace Go.Proofs.Ytannjgcnemkddaa
open Go.RowKit Go.PlainAid

set_option maxRecDepth 100000 in
set_option maxHeartbeats 800000 in
theorem put_zero (v : Value) (c : CellT) (w : World) (h : c.1 = 0) :
    Calls Try.prog 28 #[v, .agg #[.int .u64 c.1, .string c.2.1, .bool c.2.2]] w fun e w' => e = .returned (.tuple #[.slice none 0 0, .int .i64 5]) ∧ Below w.heap.size w w' := by
  rw [h]
  go_enter Try.func28, Try.ntmps28
  go_wp2
  go_ret2
  exact ⟨rfl, (Below.refl _ _).alloc (Nat.le_refl _) _⟩

theorem alloc_at (w : World) (o : Obj) : (w.alloc o).heap[w.heap.size]? = some o := by
  show (w.heap.push o)[w.heap.size]? = _
  simp
theorem alloc_at' (w : World) (o : Obj) (B : Nat) (h : w.heap.size = B) : (w.alloc o).heap[B]? = some o := by
  subst h; exact alloc_at w o
theorem own_block {w : World} {B : Nat} {e : TypeId} {k : Nat} {v : Value} {n : Nat} {xs : List Value} (h : w.ownsRow B e k v n xs) : ∀ g, v.ownBlock = some g → B ≤ g := by
  intro g hg
  rcases h.2 with ⟨rfl, _⟩ | ⟨g', cap, cur, rfl, hg', _⟩
  · simp [Value.ownBlock] at hg
  · simp [Value.ownBlock] at hg; omega
theorem own_low {w : World} {B B' : Nat} {e : TypeId} {k : Nat} {v : Value} {n : Nat} {xs : List Value} (h : w.ownsRow B e k v n xs) (hb : B' ≤ B) : w.ownsRow B' e k v n xs := by
  obtain ⟨h1, h2⟩ := h
  refine ⟨h1, ?_⟩
  rcases h2 with h2 | ⟨g, cap, cur, hv, hg, r⟩
  · exact Or.inl h2
  · exact Or.inr ⟨g, cap, cur, hv, Nat.le_trans hb hg, r⟩
theorem box_cells (w : World) (t : Int) (s : ByteArray) (d : Bool) : (w.alloc (.cells #[.int .u64 t, .string s, .bool d] 38)).cell? ⟨w.heap.size, 0, none⟩ = some (.int .u64 t) ∧
    (w.alloc (.cells #[.int .u64 t, .string s, .bool d] 38)).cell? ⟨w.heap.size, 1, none⟩ = some (.string s) ∧ (w.alloc (.cells #[.int .u64 t, .string s, .bool d] 38)).cell? ⟨w.heap.size, 2, none⟩ = some (.bool d) := by
  have h : (w.alloc (.cells #[.int .u64 t, .string s, .bool d] 38)).heap[w.heap.size]? = some (.cells #[.int .u64 t, .string s, .bool d] 38) := alloc_at _ _
  exact ⟨cell_of_row _ _ 0 _ _ _ h, cell_of_row _ _ 1 _ _ _ h, cell_of_row _ _ 2 _ _ _ h⟩
set_option maxRecDepth 100000 in
set_option maxHeartbeats 800000 in
theorem put_new (v : Value) (l : List CellT) (c : CellT) (w : World) (hs : SliceOf cellE 3 w v l) (hl : l.length ≤ 900) (h0 : 0 < c.1) (h1 : l.length = 0) :
    Calls Try.prog 28 #[v, .agg #[.int .u64 c.1, .string c.2.1, .bool c.2.2]] w fun e w' => ∃ v', e = .returned (.tuple #[v', .int .i64 0]) ∧ SliceOf cellE 3 w' v' (l ++ [c]) ∧ Below w.heap.size w w' := by
  obtain ⟨i0, hi, hz0, hz1, hz2⟩ := info_parts info_cell
  obtain ⟨t, s, d⟩ := c
  replace h0 : 0 < t := h0
  have HS := Lib.hid hs
  obtain ⟨ao, cap, rfl, hcap, hcm, hnil, hcell⟩ := hs
  have hne : (t == 0) = false := by rw [beq_eq_false_iff_ne]; omega
  have hgu : (decide ((0 : Int) < ((l.length : Nat) : Int))) = false := by rw [decide_eq_false_iff_not]; omega
  have hgu2 : (decide (0 < l.length)) = false := by rw [decide_eq_false_iff_not]; omega
  have hgu3 : (decide (((l.length : Nat) : Int) > 0)) = false := by rw [decide_eq_false_iff_not]; omega
  clear hcell hnil
  have HX := Lib.hid (box_cells w t s d)
  have HL := Lib.hid hl; have H1 := Lib.hid h1; clear h1 hl
  go_enter Try.func28, Try.ntmps28
  go_wp2_with fail
  go_quiet (fail)
  go_wp2_with fail
  go_region_law (first | (go_simp; go_at_call 66; refine Calls.mono (clone_any _ _ _ (HS.out.below (by (repeat (first | exact Below.refl _ _ | refine Below.alloc ?_ (by first | omega | (simp; done) | (simp; omega)) _ | refine Below.drew ?_ | refine below_draws ?_ _)))) (by have := HL.out; omega)) ?_; rintro e w2 ⟨v2, rfl, hown, hb2⟩; have hbx : Below (w.alloc (.cells #[.int .u64 t, .string s, .bool d] 38)).heap.size (w.alloc (.cells #[.int .u64 t, .string s, .bool d] 38)) w2 := Below.trans (by (repeat (first | exact Below.refl _ _ | refine Below.alloc ?_ (by first | omega | (simp; done) | (simp; omega)) _ | refine Below.drew ?_ | refine below_draws ?_ _))) (hb2.mono (by simp <;> omega)); have c0 := cell_below hbx HX.out.1; have c1 := cell_below hbx HX.out.2.1; have c2 := cell_below hbx HX.out.2.2; have ho := Lib.hid (own_low (B' := w.heap.size) hown (by simp <;> omega)); clear hown) | (refine step_append_lies _ rfl (.tmp 25) (.tmp 27) 35 rfl w.heap.size 38 i0 (.agg #[.int .u64 0, .string ByteArray.empty, .bool false]) 3 32 Try.underlying35 hi hz0 hz1 hz2 rfl (by decide) _ l.length (l.flatMap cellE) rfl (by first | exact ho.out | exact ho.out.alloc _) _ 1 1 [.int .u64 t, .string s, .bool d] rfl rfl (by first | exact World.news_of_block (alloc_at _ _) | exact fun j u hj => cell_below hb2 (World.news_of_block (alloc_at' _ _ _ (by simp)) j u hj)) (by simp [Value.oneCell']) (by omega) (by have := HL.out; unfold maxLen; omega) (by have := HL.out; omega) (by have := hb2.size; simp at this; simp <;> omega) _ rfl ?_; intro g1 cp1 w3 hown3 hgr3 hg3 hg3s))
  all_goals (
    have hob := Lib.hid (own_block ho.out)
    have HO3 := Lib.hid (SliceOf.own (enc := cellE) (l := l ++ [(t, s, d)]) (by rw [List.flatMap_append, List.length_append]; simp only [List.flatMap_cons, List.flatMap_nil, List.append_nil, List.length_singleton]; exact hown3) (fun x _ => rfl))
    have hb3 := Lib.hid (Below.trans (Below.trans (B := w.heap.size) (a := w) (by (repeat (first | exact Below.refl _ _ | refine Below.alloc ?_ (by first | omega | (simp; done) | (simp; omega)) _ | refine Below.drew ?_ | refine below_draws ?_ _))) (hb2.mono (by simp <;> omega))) (Below.grown (B := w.heap.size) (by have hsz := hb2.size; simp at hsz; (repeat (first | exact Below.refl _ _ | refine Below.alloc ?_ (by first | omega | (simp; done) | (simp; omega)) _ | refine Below.drew ?_ | refine below_draws ?_ _))) hgr3 (by have := hb2.size; simp at this; simp <;> omega) hob.out))
    clear hown3 hgr3
    go_wp2
    go_ret2
    exact ⟨_, rfl, HO3.out.below (by (repeat (first | exact Below.refl _ _ | refine Below.alloc ?_ (by first | omega | (simp; done) | (simp; omega)) _ | refine Below.drew ?_ | refine below_draws ?_ _))), hb3.out⟩)
set_option maxRecDepth 100000 in
set_option maxHeartbeats 800000 in
theorem put_old (v : Value) (l : List CellT) (c : CellT) (w : World) (hs : SliceOf cellE 3 w v l) (hl : l.length ≤ 900) (h0 : 0 < c.1) (k : Nat) (h1 : l.length = k + 1) (hlt : ts l k < c.1) :
    Calls Try.prog 28 #[v, .agg #[.int .u64 c.1, .string c.2.1, .bool c.2.2]] w fun e w' => ∃ v', e = .returned (.tuple #[v', .int .i64 0]) ∧ SliceOf cellE 3 w' v' (l ++ [c]) ∧ Below w.heap.size w w' := by
  obtain ⟨i0, hi, hz0, hz1, hz2⟩ := info_parts info_cell
  obtain ⟨t, s, d⟩ := c
  replace h0 : 0 < t := h0
  replace hlt : ts l k < t := hlt
  have HS := Lib.hid hs
  obtain ⟨ao, cap, rfl, hcap, hcm, hnil, hcell⟩ := hs
  obtain ⟨b, off, rfl, hr⟩ := hcell k (by omega)
  have k0 : w.cell? ⟨b, off + k * 3, none⟩ = some (.int .u64 (ts l k)) := by rw [ts_get (by omega)]; exact hr 0 _ rfl
  have k1 := cell_below ((Below.refl w.heap.size w).alloc (Nat.le_refl _) (.cells #[.int .u64 t, .string s, .bool d] 38)) k0
  clear hr
  have hne : (t == 0) = false := by rw [beq_eq_false_iff_ne]; omega
  have hgt : (decide (t ≤ ts l k)) = false := by rw [decide_eq_false_iff_not]; omega
  have hwk : IntKind.i64.wrap (k : Int) = (k : Int) := IntWalk.i64_in _ ⟨by omega, by omega⟩
  clear hcell hnil
  rw [h1] at hcap ⊢
  have HX := Lib.hid (box_cells w t s d)
  have HL := Lib.hid hl; have H1 := Lib.hid h1; clear h1 hl
  go_enter Try.func28, Try.ntmps28
  go_wp2_with fail
  go_quiet (fail)
  go_wp2_with fail
  go_region_law (first | (go_simp; go_at_call 66; refine Calls.mono (clone_any _ l _ (by have h7 := HS.out; rw [H1.out] at h7; exact h7.below (by (repeat (first | exact Below.refl _ _ | refine Below.alloc ?_ (by first | omega | (simp; done) | (simp; omega)) _ | refine Below.drew ?_ | refine below_draws ?_ _)))) (by have := HL.out; have := H1.out; omega)) ?_; rintro e w2 ⟨v2, rfl, hown, hb2⟩; have hbx : Below (w.alloc (.cells #[.int .u64 t, .string s, .bool d] 38)).heap.size (w.alloc (.cells #[.int .u64 t, .string s, .bool d] 38)) w2 := Below.trans (by (repeat (first | exact Below.refl _ _ | refine Below.alloc ?_ (by first | omega | (simp; done) | (simp; omega)) _ | refine Below.drew ?_ | refine below_draws ?_ _))) (hb2.mono (by simp <;> omega)); have c0 := cell_below hbx HX.out.1; have c1 := cell_below hbx HX.out.2.1; have c2 := cell_below hbx HX.out.2.2; have ho := Lib.hid (own_low (B' := w.heap.size) (n := k + 1) (by have h7 := hown; rw [H1.out] at h7; exact h7) (by simp <;> omega)); clear hown) | (refine step_append_lies _ rfl (.tmp 25) (.tmp 27) 35 rfl w.heap.size 38 i0 (.agg #[.int .u64 0, .string ByteArray.empty, .bool false]) 3 32 Try.underlying35 hi hz0 hz1 hz2 rfl (by decide) _ (k + 1) (l.flatMap cellE) rfl (by first | exact ho.out | exact ho.out.alloc _) _ 1 1 [.int .u64 t, .string s, .bool d] rfl rfl (by first | exact World.news_of_block (alloc_at _ _) | exact fun j u hj => cell_below hb2 (World.news_of_block (alloc_at' _ _ _ (by simp)) j u hj)) (by simp [Value.oneCell']) (by omega) (by have := HL.out; have := H1.out; unfold maxLen; omega) (by have := HL.out; have := H1.out; omega) (by have := hb2.size; simp at this; simp <;> omega) _ rfl ?_; intro g1 cp1 w3 hown3 hgr3 hg3 hg3s))
  all_goals (
    have hob := Lib.hid (own_block ho.out)
    have HO3 := Lib.hid (SliceOf.own (enc := cellE) (l := l ++ [(t, s, d)]) (by rw [List.flatMap_append, List.length_append, H1.out]; simp only [List.flatMap_cons, List.flatMap_nil, List.append_nil, List.length_singleton]; exact hown3) (fun x _ => rfl))
    have hb3 := Lib.hid (Below.trans (Below.trans (B := w.heap.size) (a := w) (by (repeat (first | exact Below.refl _ _ | refine Below.alloc ?_ (by first | omega | (simp; done) | (simp; omega)) _ | refine Below.drew ?_ | refine below_draws ?_ _))) (hb2.mono (by simp <;> omega))) (Below.grown (B := w.heap.size) (by have hsz := hb2.size; simp at hsz; (repeat (first | exact Below.refl _ _ | refine Below.alloc ?_ (by first | omega | (simp; done) | (simp; omega)) _ | refine Below.drew ?_ | refine below_draws ?_ _))) hgr3 (by have := hb2.size; simp at this; simp <;> omega) hob.out))
    clear hown3 hgr3
    go_wp2
    go_ret2
    exact ⟨_, rfl, HO3.out.below (by (repeat (first | exact Below.refl _ _ | refine Below.alloc ?_ (by first | omega | (simp; done) | (simp; omega)) _ | refine Below.drew ?_ | refine below_draws ?_ _))), hb3.out⟩)
set_option maxRecDepth 100000 in
set_option maxHeartbeats 800000 in
theorem put_late (v : Value) (l : List CellT) (c : CellT) (w : World) (hs : SliceOf cellE 3 w v l) (h0 : 0 < c.1) (k : Nat) (h1 : l.length = k + 1) (hle : c.1 ≤ ts l k) :
    Calls Try.prog 28 #[v, .agg #[.int .u64 c.1, .string c.2.1, .bool c.2.2]] w fun e w' => e = .returned (.tuple #[.slice none 0 0, .int .i64 18]) ∧ Below w.heap.size w w' := by
  obtain ⟨t, s, d⟩ := c
  replace h0 : 0 < t := h0
  replace hle : t ≤ ts l k := hle
  obtain ⟨ao, cap, rfl, hcap, hcm, hnil, hcell⟩ := hs
  obtain ⟨b, off, rfl, hr⟩ := hcell k (by omega)
  have k0 : w.cell? ⟨b, off + k * 3, none⟩ = some (.int .u64 (ts l k)) := by rw [ts_get (by omega)]; exact hr 0 _ rfl
  have k1 := cell_below ((Below.refl w.heap.size w).alloc (Nat.le_refl _) (.cells #[.int .u64 t, .string s, .bool d] 38)) k0
  clear hr
  rw [h1] at hcap ⊢
  have hne : (t == 0) = false := by rw [beq_eq_false_iff_ne]; omega
  have hgt : (decide (t ≤ ts l k)) = true := by rw [decide_eq_true_iff]; omega
  have hwk : IntKind.i64.wrap (k : Int) = (k : Int) := IntWalk.i64_in _ ⟨by omega, by omega⟩
  clear hcell hnil
  have H1 := Lib.hid h1; clear h1
  go_enter Try.func28, Try.ntmps28
  go_wp2_with fail
  go_quiet (fail)
  go_wp2_with fail
  go_ret2
  exact ⟨rfl, by (repeat (first | exact Below.refl _ _ | refine Below.alloc ?_ (by first | omega | (simp; done) | (simp; omega)) _ | refine Below.drew ?_ | refine below_draws ?_ _))⟩
end Go.Proofs.Ytannjgcnemkddaa
