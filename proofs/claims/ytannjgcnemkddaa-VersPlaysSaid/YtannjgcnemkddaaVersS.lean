/- catenaref14.Put and Prune. Conditions: lists of at most 900 versions. -/
import Derived.Test.YtannjgcnemkddaaVersN
namespace Go.Proofs.Ytannjgcnemkddaa
open Go.RowKit Go.PlainAid

theorem wp_append_src {P : Program} {w : World} {o : Oper} {a : Act} {K : Act → World → Prop} {Q : Exit → Act → World → Prop} (s x : Operand) (t : TypeId)
    (ho : o.op = .call { callee := .builtin .append, args := #[s, x], argTypes := #[t, t] })
    (base : Nat) (e : TypeId) (i : TypeInfo) (z : Value) (size bytes : Nat) (ht : P.underlying t = some (.slice e)) (hi : P.info? e = some i) (hz : i.zero = some z)
    (hsize : i.size = size) (hby : i.bytes = bytes) (hzs : z.cells.size = size) (hsz : 0 < size)
    (v : Value) (n : Nat) (xs : List Value) (hs : a.eval s = v) (hown : w.ownsRow base e size v n xs)
    {α : Type} (enc : α → List Value) (l : List α) (vs : Value) (hx : a.eval x = vs) (hsl : SliceOf enc size w vs l) (hen : ∀ y ∈ l, (enc y).length = size ∧ ∀ u ∈ enc y, u.oneCell' = true)
    (h63 : n + l.length ≤ maxLen) (hbytes : (n + l.length) * bytes ≤ 140737488355328) (hbase : base ≤ w.heap.size)
    (h : ∀ v' w', w'.ownsRow base e size v' (n + l.length) (xs ++ l.flatMap enc) → w.grownBy w' v.ownBlock → K (a.put o.dst v') w') : o.wp P a w K Q := by
  obtain ⟨ao, cap, rfl, _, _, hnil, hcell⟩ := hsl
  have hl := flat_len l (fun y hy => (hen y hy).1)
  cases ao with
  | none =>
    obtain ⟨e0, e1⟩ := hnil rfl
    obtain rfl : l = [] := List.eq_nil_of_length_eq_zero e0
    subst e1
    have hrun := run_append_owned_none (P := P) (w := w) base t o.type e i size ht hi v n xs hown
    have hx' : a.eval x = .slice none 0 0 := by simpa using hx
    unfold Oper.wp
    simp [execOp, ho, resolve, invoke, builtin, hs, hx', hrun, Result.andThen]
    exact h v w (by simpa using hown) (World.grownBy.refl _ _)
  | some ad =>
    refine wp_append_own _ s x t ho base e i z size bytes ht hi hz hsize hby hzs hsz v n xs hs hown ad l.length cap (l.flatMap enc) hx hl ?_ ?_ h63 hbytes hbase (fun v' w' h1 h2 _ => h v' w' h1 h2)
    · intro j u hu
      have hj : j < l.length * size := by rw [← hl]; exact (List.getElem?_eq_some_iff.1 hu).1
      have hq : j / size < l.length := Nat.div_lt_of_lt_mul (by rw [Nat.mul_comm]; exact hj)
      obtain ⟨b, off, hb, hr⟩ := hcell _ hq
      cases hb
      rw [Addr.add_lit]
      have hdm : j / size * size + j % size = j := by rw [Nat.mul_comm]; exact Nat.div_add_mod j size
      have hr' := hr (j % size) u
      rw [Nat.add_assoc, hdm] at hr'
      refine hr' ?_
      rw [← flat_at l (j / size) (j % size) hq (fun y hy => (hen y hy).1) (Nat.mod_lt _ hsz), hdm]; exact hu
    · intro u hu
      obtain ⟨y, hy, huy⟩ := List.mem_flatMap.1 hu
      exact (hen y hy).2 u huy
theorem step_append_src {P : Program} {w : World} {ops : Array Oper} {o : Oper} {a : Act} {K : Act → World → Prop} {Q : Exit → Act → World → Prop} {E : Prop} (hgd : o.guard = none) (s x : Operand) (t : TypeId)
    (ho : o.op = .call { callee := .builtin .append, args := #[s, x], argTypes := #[t, t] })
    (base : Nat) (e : TypeId) (i : TypeInfo) (z : Value) (size bytes : Nat) (ht : P.underlying t = some (.slice e)) (hi : P.info? e = some i) (hz : i.zero = some z)
    (hsize : i.size = size) (hby : i.bytes = bytes) (hzs : z.cells.size = size) (hsz : 0 < size)
    (v : Value) (n : Nat) (xs : List Value) (hs : a.eval s = v) (hown : w.ownsRow base e size v n xs)
    {α : Type} (enc : α → List Value) (l : List α) (vs : Value) (hx : a.eval x = vs) (hsl : SliceOf enc size w vs l) (hen : ∀ y ∈ l, (enc y).length = size ∧ ∀ u ∈ enc y, u.oneCell' = true)
    (h63 : n + l.length ≤ maxLen) (hbytes : (n + l.length) * bytes ≤ 140737488355328) (hbase : base ≤ w.heap.size)
    (h : ∀ v' w', w'.ownsRow base e size v' (n + l.length) (xs ++ l.flatMap enc) → w.grownBy w' v.ownBlock → K (a.put o.dst v') w') :
    if Region.wanted o (yielded ops a.tmps) = true then Oper.wp P o a w K Q else E := by
  have hw : Region.wanted o (yielded ops a.tmps) = true := by simp [Region.wanted, hgd]
  rw [if_pos hw]
  exact wp_append_src s x t ho base e i z size bytes ht hi hz hsize hby hzs hsz v n xs hs hown enc l vs hx hsl hen h63 hbytes hbase h
theorem row_empty (w : World) (T : TypeId) (sz B base : Nat) (h : w.heap.size = B) (hb : base ≤ B) : (w.alloc (.cells #[] T)).ownsRow base T sz (.slice (some ⟨B, 0, none⟩) 0 0) 0 [] := by
  subst h
  exact row_built w #[] T sz 0 base hb (by simp) (by decide)

set_option maxRecDepth 100000 in
set_option maxHeartbeats 800000 in
theorem rput_new (v : Value) (l : List CellT) (c : CellT) (w : World) (hs : SliceOf cellE 3 w v l) (hl : l.length ≤ 900) (h0 : 0 < c.1) (h1 : l.length = 0) :
    Calls Try.prog 29 #[v, .agg #[.int .u64 c.1, .string c.2.1, .bool c.2.2]] w fun e w' => ∃ v', e = .returned (.tuple #[v', .int .i64 0]) ∧ SliceOf cellE 3 w' v' (l ++ [c]) ∧ Below w.heap.size w w' := by
  obtain ⟨i0, hi, hz0, hz1, hz2⟩ := info_parts info_cell
  obtain ⟨t, s, d⟩ := c
  replace h0 : 0 < t := h0
  have HS := Lib.hid hs
  obtain ⟨ao, cap, rfl, hcap, hcm, hnil, hcell⟩ := hs
  have hne : (t == 0) = false := by rw [beq_eq_false_iff_ne]; omega
  have hgu : (decide ((0 : Int) < ((l.length : Nat) : Int))) = false := by rw [decide_eq_false_iff_not]; omega
  have hgu2 : (decide (0 < l.length)) = false := by rw [decide_eq_false_iff_not]; omega
  have hgu3 : (decide (((l.length : Nat) : Int) > 0)) = false := by rw [decide_eq_false_iff_not]; omega
  clear hcell hnil
  have HX := Lib.hid (box_cells w t s d)
  have HL := Lib.hid hl; have H1 := Lib.hid h1; clear h1 hl
  go_enter Try.func29, Try.ntmps29
  go_wp2_with fail
  go_quiet (fail)
  go_wp2_with fail
  go_region_law (first | (refine step_append_src rfl (.tmp 24) (.tmp 25) 35 rfl (w.heap.size + 1) 38 i0 (.agg #[.int .u64 0, .string ByteArray.empty, .bool false]) 3 32 Try.underlying35 hi hz0 hz1 hz2 rfl (by decide) _ 0 [] rfl (by first | exact row_empty _ _ _ _ _ (by simp) (by omega) | exact (row_empty _ _ _ _ _ (by simp) (by omega)).alloc _) cellE l _ rfl (HS.out.below (by (repeat (first | exact Below.refl _ _ | refine Below.alloc ?_ (by first | omega | (simp; done) | (simp; omega)) _ | refine Below.drew ?_ | refine below_draws ?_ _)))) (cellE_one l) (by have := HL.out; unfold maxLen; omega) (by have := HL.out; omega) (by simp <;> omega) ?_; intro v2 w2 hown2 hgr2; have hbx : Below ((w.alloc (.cells #[.int .u64 t, .string s, .bool d] 38))).heap.size ((w.alloc (.cells #[.int .u64 t, .string s, .bool d] 38))) w2 := Below.grown (by (repeat (first | exact Below.refl _ _ | refine Below.alloc ?_ (by first | omega | (simp; done) | (simp; omega)) _ | refine Below.drew ?_ | refine below_draws ?_ _))) hgr2 (by simp <;> omega) (fun k hk => by cases hk; simp <;> omega); have c0 := cell_below hbx HX.out.1; have c1 := cell_below hbx HX.out.2.1; have c2 := cell_below hbx HX.out.2.2; have ho := Lib.hid (show w2.ownsRow (w.heap.size + 1) 38 3 v2 l.length (l.flatMap cellE) by have h7 := hown2; rwa [Nat.zero_add] at h7); clear hown2) | (refine step_append_lies _ rfl (.tmp 26) (.tmp 28) 35 rfl (w.heap.size + 1) 38 i0 (.agg #[.int .u64 0, .string ByteArray.empty, .bool false]) 3 32 Try.underlying35 hi hz0 hz1 hz2 rfl (by decide) _ l.length (l.flatMap cellE) rfl (by first | exact ho.out | exact ho.out.alloc _) _ 1 1 [.int .u64 t, .string s, .bool d] rfl rfl (by first | exact World.news_of_block (alloc_at _ _) | exact fun j u hj => hgr2.cell (World.news_of_block (alloc_at' _ _ _ (by simp)) j u hj) (by rw [Addr.add_lit]; intro h8; injection h8 with h9; first | omega | (simp at h9; done) | (simp at h9; omega)) | exact fun j u hj => hgr2.cell (cell_below (Below.alloc (Below.refl _ _) (Nat.le_refl _) _) (World.news_of_block (alloc_at' _ _ _ (by simp)) j u hj)) (by rw [Addr.add_lit]; intro h8; injection h8 with h9; first | omega | (simp at h9; done) | (simp at h9; omega))) (by simp [Value.oneCell']) (by omega) (by have := HL.out; unfold maxLen; omega) (by have := HL.out; omega) (by have := hbx.size; simp at this; simp <;> omega) _ rfl ?_; intro g1 cp1 w3 hown3 hgr3 hg3 hg3s))
  all_goals (
    have hob := Lib.hid (own_block ho.out)
    have HO3 := Lib.hid (SliceOf.own (enc := cellE) (l := l ++ [(t, s, d)]) (by rw [List.flatMap_append, List.length_append]; simp only [List.flatMap_cons, List.flatMap_nil, List.append_nil, List.length_singleton]; exact hown3) (fun x _ => rfl))
    have hb3 := Lib.hid (Below.trans (Below.trans (B := w.heap.size) (a := w) (by (repeat (first | exact Below.refl _ _ | refine Below.alloc ?_ (by first | omega | (simp; done) | (simp; omega)) _ | refine Below.drew ?_ | refine below_draws ?_ _))) (hbx.mono (by simp <;> omega))) (Below.grown (B := w.heap.size) (by have hsz := hbx.size; simp at hsz; (repeat (first | exact Below.refl _ _ | refine Below.alloc ?_ (by first | omega | (simp; done) | (simp; omega)) _ | refine Below.drew ?_ | refine below_draws ?_ _))) hgr3 (by have := hbx.size; simp at this; simp <;> omega) (fun k hk => by have := hob.out k hk; omega)))
    clear hown3 hgr3
    go_wp2
    go_ret2
    exact ⟨_, rfl, HO3.out.below (by (repeat (first | exact Below.refl _ _ | refine Below.alloc ?_ (by first | omega | (simp; done) | (simp; omega)) _ | refine Below.drew ?_ | refine below_draws ?_ _))), hb3.out⟩)
set_option maxRecDepth 100000 in
set_option maxHeartbeats 800000 in
theorem rput_zero (v : Value) (c : CellT) (w : World) (h : c.1 = 0) :
    Calls Try.prog 29 #[v, .agg #[.int .u64 c.1, .string c.2.1, .bool c.2.2]] w fun e w' => e = .returned (.tuple #[.slice none 0 0, .int .i64 5]) ∧ Below w.heap.size w w' := by
  rw [h]
  go_enter Try.func29, Try.ntmps29
  go_wp2
  go_ret2
  exact ⟨rfl, (Below.refl _ _).alloc (Nat.le_refl _) _⟩

set_option maxRecDepth 100000 in
set_option maxHeartbeats 800000 in
theorem rput_late (v : Value) (l : List CellT) (c : CellT) (w : World) (hs : SliceOf cellE 3 w v l) (h0 : 0 < c.1) (k : Nat) (h1 : l.length = k + 1) (hle : c.1 ≤ ts l k) :
    Calls Try.prog 29 #[v, .agg #[.int .u64 c.1, .string c.2.1, .bool c.2.2]] w fun e w' => e = .returned (.tuple #[.slice none 0 0, .int .i64 18]) ∧ Below w.heap.size w w' := by
  obtain ⟨t, s, d⟩ := c
  replace h0 : 0 < t := h0
  replace hle : t ≤ ts l k := hle
  obtain ⟨ao, cap, rfl, hcap, hcm, hnil, hcell⟩ := hs
  obtain ⟨b, off, rfl, hr⟩ := hcell k (by omega)
  have k0 : w.cell? ⟨b, off + k * 3, none⟩ = some (.int .u64 (ts l k)) := by rw [ts_get (by omega)]; exact hr 0 _ rfl
  have k1 := cell_below ((Below.refl w.heap.size w).alloc (Nat.le_refl _) (.cells #[.int .u64 t, .string s, .bool d] 38)) k0
  clear hr
  rw [h1] at hcap ⊢
  have hne : (t == 0) = false := by rw [beq_eq_false_iff_ne]; omega
  have hgt : (decide (t ≤ ts l k)) = true := by rw [decide_eq_true_iff]; omega
  have hwk : IntKind.i64.wrap (k : Int) = (k : Int) := IntWalk.i64_in _ ⟨by omega, by omega⟩
  clear hcell hnil
  have H1 := Lib.hid h1; clear h1
  go_enter Try.func29, Try.ntmps29
  go_wp2_with fail
  go_quiet (fail)
  go_wp2_with fail
  go_ret2
  exact ⟨rfl, by (repeat (first | exact Below.refl _ _ | refine Below.alloc ?_ (by first | omega | (simp; done) | (simp; omega)) _ | refine Below.drew ?_ | refine below_draws ?_ _))⟩
set_option maxRecDepth 100000 in
set_option maxHeartbeats 800000 in
theorem rput_old (v : Value) (l : List CellT) (c : CellT) (w : World) (hs : SliceOf cellE 3 w v l) (hl : l.length ≤ 900) (h0 : 0 < c.1) (k : Nat) (h1 : l.length = k + 1) (hlt : ts l k < c.1) :
    Calls Try.prog 29 #[v, .agg #[.int .u64 c.1, .string c.2.1, .bool c.2.2]] w fun e w' => ∃ v', e = .returned (.tuple #[v', .int .i64 0]) ∧ SliceOf cellE 3 w' v' (l ++ [c]) ∧ Below w.heap.size w w' := by
  obtain ⟨i0, hi, hz0, hz1, hz2⟩ := info_parts info_cell
  obtain ⟨t, s, d⟩ := c
  replace h0 : 0 < t := h0
  replace hlt : ts l k < t := hlt
  have HS := Lib.hid hs
  obtain ⟨ao, cap, rfl, hcap, hcm, hnil, hcell⟩ := hs
  obtain ⟨b, off, rfl, hr⟩ := hcell k (by omega)
  have k0 : w.cell? ⟨b, off + k * 3, none⟩ = some (.int .u64 (ts l k)) := by rw [ts_get (by omega)]; exact hr 0 _ rfl
  have k1 := cell_below ((Below.refl w.heap.size w).alloc (Nat.le_refl _) (.cells #[.int .u64 t, .string s, .bool d] 38)) k0
  clear hr
  have hne : (t == 0) = false := by rw [beq_eq_false_iff_ne]; omega
  have hgt : (decide (t ≤ ts l k)) = false := by rw [decide_eq_false_iff_not]; omega
  have hwk : IntKind.i64.wrap (k : Int) = (k : Int) := IntWalk.i64_in _ ⟨by omega, by omega⟩
  clear hcell hnil
  rw [h1] at hcap ⊢
  have HX := Lib.hid (box_cells w t s d)
  have HL := Lib.hid hl; have H1 := Lib.hid h1; clear h1 hl
  go_enter Try.func29, Try.ntmps29
  go_wp2_with fail
  go_quiet (fail)
  go_wp2_with fail
  go_region_law (first | (refine step_append_src rfl (.tmp 24) (.tmp 25) 35 rfl (w.heap.size + 1) 38 i0 (.agg #[.int .u64 0, .string ByteArray.empty, .bool false]) 3 32 Try.underlying35 hi hz0 hz1 hz2 rfl (by decide) _ 0 [] rfl (by first | exact row_empty _ _ _ _ _ (by simp) (by omega) | exact (row_empty _ _ _ _ _ (by simp) (by omega)).alloc _) cellE l _ rfl (by have h7 := HS.out; rw [H1.out] at h7; exact h7.below (by (repeat (first | exact Below.refl _ _ | refine Below.alloc ?_ (by first | omega | (simp; done) | (simp; omega)) _ | refine Below.drew ?_ | refine below_draws ?_ _)))) (cellE_one l) (by have := HL.out; unfold maxLen; omega) (by have := HL.out; omega) (by simp <;> omega) ?_; intro v2 w2 hown2 hgr2; have hbx : Below ((w.alloc (.cells #[.int .u64 t, .string s, .bool d] 38))).heap.size ((w.alloc (.cells #[.int .u64 t, .string s, .bool d] 38))) w2 := Below.grown (by (repeat (first | exact Below.refl _ _ | refine Below.alloc ?_ (by first | omega | (simp; done) | (simp; omega)) _ | refine Below.drew ?_ | refine below_draws ?_ _))) hgr2 (by simp <;> omega) (fun k hk => by cases hk; simp <;> omega); have c0 := cell_below hbx HX.out.1; have c1 := cell_below hbx HX.out.2.1; have c2 := cell_below hbx HX.out.2.2; have ho := Lib.hid (show w2.ownsRow (w.heap.size + 1) 38 3 v2 (k + 1) (l.flatMap cellE) by have h7 := hown2; rwa [Nat.zero_add, H1.out] at h7); clear hown2) | (refine step_append_lies _ rfl (.tmp 26) (.tmp 28) 35 rfl (w.heap.size + 1) 38 i0 (.agg #[.int .u64 0, .string ByteArray.empty, .bool false]) 3 32 Try.underlying35 hi hz0 hz1 hz2 rfl (by decide) _ (k + 1) (l.flatMap cellE) rfl (by first | exact ho.out | exact ho.out.alloc _) _ 1 1 [.int .u64 t, .string s, .bool d] rfl rfl (by first | exact World.news_of_block (alloc_at _ _) | exact fun j u hj => hgr2.cell (World.news_of_block (alloc_at' _ _ _ (by simp)) j u hj) (by rw [Addr.add_lit]; intro h8; injection h8 with h9; first | omega | (simp at h9; done) | (simp at h9; omega)) | exact fun j u hj => hgr2.cell (cell_below (Below.alloc (Below.refl _ _) (Nat.le_refl _) _) (World.news_of_block (alloc_at' _ _ _ (by simp)) j u hj)) (by rw [Addr.add_lit]; intro h8; injection h8 with h9; first | omega | (simp at h9; done) | (simp at h9; omega))) (by simp [Value.oneCell']) (by omega) (by have := HL.out; have := H1.out; unfold maxLen; omega) (by have := HL.out; have := H1.out; omega) (by have := hbx.size; simp at this; simp <;> omega) _ rfl ?_; intro g1 cp1 w3 hown3 hgr3 hg3 hg3s))
  all_goals (
    have hob := Lib.hid (own_block ho.out)
    have HO3 := Lib.hid (SliceOf.own (enc := cellE) (l := l ++ [(t, s, d)]) (by rw [List.flatMap_append, List.length_append, H1.out]; simp only [List.flatMap_cons, List.flatMap_nil, List.append_nil, List.length_singleton]; exact hown3) (fun x _ => rfl))
    have hb3 := Lib.hid (Below.trans (Below.trans (B := w.heap.size) (a := w) (by (repeat (first | exact Below.refl _ _ | refine Below.alloc ?_ (by first | omega | (simp; done) | (simp; omega)) _ | refine Below.drew ?_ | refine below_draws ?_ _))) (hbx.mono (by simp <;> omega))) (Below.grown (B := w.heap.size) (by have hsz := hbx.size; simp at hsz; (repeat (first | exact Below.refl _ _ | refine Below.alloc ?_ (by first | omega | (simp; done) | (simp; omega)) _ | refine Below.drew ?_ | refine below_draws ?_ _))) hgr3 (by have := hbx.size; simp at this; simp <;> omega) (fun k hk => by have := hob.out k hk; omega)))
    clear hown3 hgr3
    go_wp2
    go_ret2
    exact ⟨_, rfl, HO3.out.below (by (repeat (first | exact Below.refl _ _ | refine Below.alloc ?_ (by first | omega | (simp; done) | (simp; omega)) _ | refine Below.drew ?_ | refine below_draws ?_ _))), hb3.out⟩)
theorem rput_good (v : Value) (l : List CellT) (c : CellT) (w : World) (hs : SliceOf cellE 3 w v l) (hl : l.length ≤ 900) (h0 : 0 < c.1) (h : lastTs 0 l < c.1) :
    Calls Try.prog 29 #[v, .agg #[.int .u64 c.1, .string c.2.1, .bool c.2.2]] w fun e w' => ∃ v', e = .returned (.tuple #[v', .int .i64 0]) ∧ SliceOf cellE 3 w' v' (l ++ [c]) ∧ Below w.heap.size w w' := by
  by_cases h1 : l.length = 0
  · exact rput_new v l c w hs hl h0 h1
  · rw [lastTs_ts 0 l (by omega)] at h
    exact rput_old v l c w hs hl h0 (l.length - 1) (by omega) h
end Go.Proofs.Ytannjgcnemkddaa
