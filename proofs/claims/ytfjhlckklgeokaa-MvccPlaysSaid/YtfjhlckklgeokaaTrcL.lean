/- Package tree, of lists of cells: Keys. Conditions: at most 80000 keys. -/
import Derived.Test.YtfjhlckklgeokaaTrcJ
import Derived.Test.YtfjhlckklgeokaaStrs
import Derived.Maps.AppendAt
import Derived.BigQuiet
namespace Go.Proofs.Ytfjhlckklgeokaa
open Go.RowKit Go.Shelf
attribute [local go_sem] Oper.semAt_some
set_option linter.unusedVariables false

theorem wk_il (F : ByteArray) : ∀ t : Tm, Srt (il t) → wk F t = wkL F (il t)
  | .nil, _ => rfl
  | .nd b l k v d r, h => by
    obtain ⟨hl, hr, h1, h2⟩ := Srt.parts h
    have e1 := wk_il F l hl; have e2 := wk_il F r hr
    show wk F (.nd b l k v d r) = wkL F (il l ++ (k, v) :: il r)
    unfold wkL at *
    rw [wk]
    by_cases q : klt k F = true
    · rw [if_pos q, List.filter_append, List.filter_cons_of_neg (by simp [q]), List.filter_eq_nil_iff.2 (fun a ha => by simp [klt_tr (h1 a ha) q]), e2]; rfl
    · rw [if_neg q, List.filter_append, List.filter_cons_of_pos (by simpa using q), e1, e2]; simp
theorem wkL_len (F : ByteArray) (L : List Kv) : (wkL F L).length ≤ L.length := by unfold wkL; rw [List.length_map]; exact List.length_filter_le _ _
/-- The range ends ahead of this key. -/
def hit (T k : ByteArray) : Bool := !(T.toList.isEmpty) && !(Op.bytesLess k.toList T.toList)
def kcut (T : ByteArray) (l : List ByteArray) : List ByteArray := l.takeWhile fun k => !(hit T k)
theorem kcut_all {T : ByteArray} {l : List ByteArray} (h : ∀ x ∈ l, hit T x = false) : kcut T l = l := by
  induction l with
  | nil => rfl
  | cons a r ih => unfold kcut at *; rw [List.takeWhile_cons, if_pos (by simp [h a (by simp)]), ih (fun x hx => h x (by simp [hx]))]
theorem kcut_at {T : ByteArray} {l z : List ByteArray} {x : ByteArray} (h : ∀ x ∈ l, hit T x = false) (hx : hit T x = true) : kcut T (l ++ x :: z) = l := by
  induction l with
  | nil => unfold kcut; rw [List.nil_append, List.takeWhile_cons, if_neg (by simp [hx])]
  | cons a r ih => unfold kcut at *; rw [List.cons_append, List.takeWhile_cons, if_pos (by simp [h a (by simp)]), ih (fun x hx => h x (by simp [hx]))]
theorem info_strT : (Try.prog.info? 9).map (fun i => (i.zero, i.size, i.bytes)) = some (some (.string ⟨#[]⟩), 1, 16) := by kernel_rfl
theorem grown_drew (X : World) : X.grownBy X.drew none := ⟨rfl, rfl, rfl, Nat.le_refl _, fun _ _ _ => rfl⟩
theorem titer_stops (n₀ Bn tb : Nat) (F : ByteArray) (t : Tm) (u s : Value) (w : World) (hT : TreeAt w t) (hq : ∀ q ∈ bk t, q < n₀) (hb : Blk w tb 86 #[u, ptT t, s]) (hc : Boxed w Bn 55 (pt tb 0)) (hc1 : Boxed w (Bn + 1) 9 (.string F)) :
    SeqStopsK Fence.wide 2 Try.prog 54 #[.pointer (some ⟨Bn, 0, none⟩), .pointer (some ⟨Bn + 1, 0, none⟩)] (fun x : ByteArray => #[.string x]) (Below n₀) (fun ys => ys = wk F t) (fun zs => zs ≠ [] ∧ zs <+: wk F t) (wk F t).length w := fun lp J Jx W hW hJ _ hY h0 => by
  have hg := below_grown hW
  refine (titer_in lp n₀ Bn tb F t u s J Jx (fun pre x W1 h hp => hY pre x W1 h (by have := hp.length_le; simp at this; omega)) (fun pre X h => hJ pre X X.drew none h (grown_drew X) (fun _ e => nomatch e)) W (hT.gr hg (fun q e => nomatch e)) hq h0 (hb.kept hg (by simp)) (hc.kept hg (by simp)).cell (hc1.kept hg (by simp)).cell).mono ?_
  rintro e W' ⟨hv, h | ⟨zs, h1, h2, h3⟩⟩
  · exact ⟨hv, .inl ⟨_, rfl, h⟩⟩
  · exact ⟨hv, .inr ⟨zs, ⟨h1, h2⟩, h3⟩⟩
theorem own_blockT {w : World} {B : Nat} {e : TypeId} {k : Nat} {v : Value} {n : Nat} {xs : List Value} (h : w.ownsRow B e k v n xs) : ∀ g, v.ownBlock = some g → B ≤ g := fun g hg => (h.lt g hg).1
theorem own_lowT {w : World} {B B' : Nat} {e : TypeId} {k : Nat} {v : Value} {n : Nat} {xs : List Value} (h : w.ownsRow B e k v n xs) (hb : B' ≤ B) : w.ownsRow B' e k v n xs := by
  obtain ⟨h1, h2⟩ := h
  refine ⟨h1, ?_⟩
  rcases h2 with h2 | ⟨g, cap, cur, hv, hg, r⟩
  · exact Or.inl h2
  · exact Or.inr ⟨g, cap, cur, hv, Nat.le_trans hb hg, r⟩
theorem own_sliceT {W : World} {base : Nat} {e : TypeId} {size : Nat} {v : Value} {k : Nat} {xs : List Value} (h : W.ownsRow base e size v k xs) : ∃ ao n cap, v = .slice ao n cap := by
  rcases h.2 with ⟨rfl, _⟩ | ⟨g, cap, cur, rfl, _⟩
  · exact ⟨_, _, _, rfl⟩
  · exact ⟨_, _, _, rfl⟩
/-- What the loop of Keys keeps. -/
def IK (N : Nat) (T : ByteArray) (pre : List ByteArray) (W : World) : Prop := (∃ v, Boxed W (N + 1) 75 v ∧ W.ownsRow (N + 4) 9 1 v pre.length (pre.flatMap strE) ∧ True) ∧ Boxed W N 9 (.string T)
theorem IK.own (N : Nat) (T : ByteArray) : Own (IK N T) := fun s X Y row hs hg hr =>
  ⟨holdsRow_own (N + 4) (N + 1) 75 9 1 (fun pre : List ByteArray => pre.length) (fun pre => pre.flatMap strE) (fun _ _ => True) s X Y row hs.1 hg hr,
    boxed_own N 9 (fun _ => .string T) s X Y row hs.2 hg hr⟩

set_option maxRecDepth 100000 in
set_option maxHeartbeats 4000000 in
theorem tkeys_any (S : Nat → Prop) (w : World) (tb : Nat) (L : List Kv) (d : Int) (F T : ByteArray) (h : TrO S w tb L d) (hL : L.length ≤ 80000) :
    Calls Try.prog 32 #[pt tb 0, .string F, .string T] w fun e w' => ∃ u, e = .returned u ∧ w'.ownsRow w.heap.size 9 1 u (kcut T (wkL F L)).length ((kcut T (wkL F L)).flatMap strE) ∧ Below w.heap.size w w' := by
  obtain ⟨t, h1, h2, h3, h4, h5, h6, rfl, h8, h9⟩ := h
  have hlen := wkL_len F (il t)
  rw [← wk_il F t h6] at hlen ⊢
  obtain ⟨i0, hi, hz0, hz1, hz2⟩ := info_parts info_strT
  obtain ⟨N, hN⟩ : ∃ N, N = w.heap.size := ⟨_, rfl⟩
  have hq : ∀ q ∈ bk t, q < N := fun q hq => by rw [hN]; exact h2.lt q hq
  have H1 := Lib.hid h1; have H2 := Lib.hid h2; have HQ := Lib.hid hq; have HLEN := Lib.hid (Nat.le_trans hlen hL)
  clear h1 h2 h3 h4 h5 h6 h8 h9 hq hL hlen
  refine (callsIn_wide (n := 3)).1 ?_
  refine callsIn_of_wp_marks Try.func32 rfl trivial ?_ rfl
  simp only [Try.ntmps32, List.size_toArray, List.length_cons, List.length_nil, Nat.reduceAdd, Nat.reduceSub, Array.replicate_succ, Array.replicate_zero, List.push_toArray, List.append_toArray, List.nil_append, List.cons_append]
  have hn1 : 1 ≤ (3 : Nat) := by omega
  rw [← hN]
  have HN := Lib.hid hN; clear hN
  gi_wp2_with (first
    | (refine ⟨trivial, ?_⟩; gi_at_call 41; refine (callsIn_wide.2 (zero_made tb _ _ _ (Blk.kept H1.out (World.grownBy_alloc _ _ none) (by simp)))).mono ?_; rintro e w1 ⟨rfl, rfl⟩)
    | (refine ⟨trivial, ?_⟩; gi_at_call 45; refine (keysFrom_any tb F _).mono ?_; rintro e w' ⟨rfl, rfl⟩))
  have bT := (((Boxed.new w 9 (.string T)).alloc (.cells #[.slice none 0 0] 75)).alloc (.cells #[pt tb 0] 55)).alloc (.cells #[.string F] 9)
  have bL := ((Boxed.new (w.alloc (.cells #[.string T] 9)) 75 (.slice none 0 0)).alloc (.cells #[pt tb 0] 55)).alloc (.cells #[.string F] 9)
  have bP := (Boxed.new ((w.alloc (.cells #[.string T] 9)).alloc (.cells #[.slice none 0 0] 75)) 55 (pt tb 0)).alloc (.cells #[.string F] 9)
  have bF := Boxed.new (((w.alloc (.cells #[.string T] 9)).alloc (.cells #[.slice none 0 0] 75)).alloc (.cells #[pt tb 0] 55)) 9 (.string F)
  have hB0 : Below w.heap.size w ((((w.alloc (.cells #[.string T] 9)).alloc (.cells #[.slice none 0 0] 75)).alloc (.cells #[pt tb 0] 55)).alloc (.cells #[.string F] 9)) := ((((Below.refl _ w).alloc (Nat.le_refl _) _).alloc (by simp) _).alloc (by simp; omega) _).alloc (by simp; omega) _
  have hsz : ((((w.alloc (.cells #[.string T] 9)).alloc (.cells #[.slice none 0 0] 75)).alloc (.cells #[pt tb 0] 55)).alloc (.cells #[.string F] 9)).heap.size = w.heap.size + 4 := by simp
  simp only [World.size_alloc] at bT bL bP bF ⊢
  rw [← HN.out] at bT bL bP bF hB0 hsz ⊢
  obtain ⟨W0, hW0⟩ : ∃ W0, (((w.alloc (.cells #[.string T] 9)).alloc (.cells #[.slice none 0 0] 75)).alloc (.cells #[pt tb 0] 55)).alloc (.cells #[.string F] 9) = W0 := ⟨_, rfl⟩
  rw [hW0] at bT bL bP bF hB0 hsz ⊢
  clear hW0
  have hNW : N ≤ W0.heap.size := by omega
  have hk0 : Blk W0 tb 86 #[.bool true, ptT t, .int .i64 (sz t)] := Blk.kept H1.out (below_grown (HN.out ▸ hB0)) (by simp)
  have ht0 : TreeAt W0 t := H2.out.gr (below_grown (HN.out ▸ hB0)) (fun q e => nomatch e)
  refine wpIn_rangeFunc_ownH rfl hn1 (gf := 54) (lb := #[.pointer (some ⟨N + 1 + 1, 0, none⟩), .pointer (some ⟨N + 1 + 1 + 1, 0, none⟩)]) rfl trivial (enters_of Try.func54 (by kernel_rfl) rfl)
    (titer_stops N (N + 1 + 1) tb F t _ _ W0 ht0 HQ.out hk0 bP bF) Below.trans (belowK_b (by omega)) (Below.refl _ _) (fun _ => rfl)
    (fun pre W => (IK N T pre W ∧ ∀ x ∈ pre, hit T x = false) ∧ Below N w W)
    (fun c pre W => (∃ pre' x, c = .exit 0 ∧ pre = pre' ++ [x] ∧ IK N T pre' W ∧ (∀ y ∈ pre', hit T y = false) ∧ hit T x = true) ∧ Below N w W)
    ?hI ?hIx ⟨⟨⟨⟨_, bL, World.ownsRow_nil _ _ _ _, trivial⟩, bT⟩, by simp⟩, hB0⟩
    (fun x a' W => a' = { tmps := #[pt tb 0, .string F, .string T, undef, undef, .pointer (some ⟨N, 0, none⟩), .slice none 0 0, .pointer (some ⟨N + 1, 0, none⟩), .string x, pt tb 0, .bool false, pt tb 0, .string F, .func (.func 54) #[] #[.pointer (some ⟨N + 1 + 1, 0, none⟩), .pointer (some ⟨N + 1 + 1 + 1, 0, none⟩)], .string x, undef, undef, undef, undef, undef, undef, undef, undef, undef, undef, undef, undef], defers := [] })
    (fun x a' _ X Y row hs hg hr => hs)
    ?assign ?body ?done ?stop
  case hI => exact fun s' X Y row hs' hg hr => ⟨⟨IK.own N T s' X Y row hs'.1.1 hg (fun r e => (hr r e).2), hs'.1.2⟩, ownFrom_below (by have := HN.out; omega) hNW s' X Y row hs'.2 hg hr⟩
  case hIx =>
    rintro c s' X Y row ⟨⟨pre', x, q1, q2, q3, q4⟩, q5⟩ hg hr
    exact ⟨⟨pre', x, q1, q2, IK.own N T pre' X Y row q3 hg (fun r e => (hr r e).2), q4⟩, ownFrom_below (by have := HN.out; omega) hNW s' X Y row q5 hg hr⟩
  case assign =>
    rintro lp pre x W K ⟨⟨hIA, hg⟩, hB⟩ hK
    have HG := Lib.hid hg; have HSZ := Lib.hid hsz; have HIA := Lib.hid hIA; have HB := Lib.hid hB; clear hg hsz hIA hB
    gi_wp2
    exact hK _ _ ((KeepsOthers.refl _).from _) (Below.refl _ _) ⟨⟨HIA.out, HG.out⟩, HB.out⟩ rfl
  case body =>
    rintro lp pre x a' W hlp ⟨r, hr⟩ ⟨⟨⟨⟨v, hv, hrow, -⟩, bT'⟩, hg⟩, hB⟩ rfl hlt
    have hB4 : N + 4 ≤ W.heap.size := by have := (Array.getElem?_eq_some_iff.1 hr).1; omega
    have cv := hv.cell; have cT := bT'.cell
    have hlen := HLEN.out
    have HG := Lib.hid hg; have HSZ := Lib.hid hsz; have HBB := Lib.hid hB; have HBT := Lib.hid bT'
    clear hg hsz hB bT' bT bL bP bF hk0 ht0
    cases x1 : T.toList.isEmpty with
    | true =>
      gi_wp2_with (gi_at_builtin; refine wpListIn_append_own _ rfl _ _ 75 rfl (N + 4) 9 i0 (.string ⟨#[]⟩) 1 16 Try.underlying75 hi hz0 hz1 hz2 rfl (by decide) _ _ _ rfl (hrow.alloc _) ⟨W.heap.size, 0, none⟩ 1 1 [.string x] rfl rfl (cell_one_new _ _ _) (by simp [Value.oneCell']) (by unfold maxLen; omega) (by omega) (by simp; omega) ?_; intro v' w1 hown' hgrow _; obtain ⟨g', cap', rfl⟩ := ownsRow_succ hown'; obtain ⟨p1, p2, p3, p4, p5⟩ := hv.appended (by decide) (own_lowT hrow (B' := N + 1) (by omega)) (by omega) (Nat.le_refl _) (own_lowT hown' (B' := N + 1) (by omega)) hgrow; have hc1 := p1.cell; have hf1 := p1.frozen)
      refine ⟨p4.from _, p5.mono (by omega), ⟨⟨⟨_, p2, ?_, trivial⟩, ?_⟩, ?_⟩, HBB.out.trans (p5.mono (by omega))⟩
      · rw [List.length_append, List.flatMap_append]
        exact hown'.kept (grownBy_setCell' w1 (N + 1) _) (.inr (p1.not_row (by decide) hown').symm)
      · exact (p5.block N (by omega)).trans HBT.out
      · intro y hy
        rcases List.mem_append.1 hy with hy | hy
        · exact HG.out y hy
        · simp only [List.mem_singleton] at hy; subst hy; unfold hit; rw [x1]; rfl
    | false =>
      cases x2 : Op.bytesLess x.toList T.toList with
      | true =>
        gi_wp2_with (gi_at_builtin; refine wpListIn_append_own _ rfl _ _ 75 rfl (N + 4) 9 i0 (.string ⟨#[]⟩) 1 16 Try.underlying75 hi hz0 hz1 hz2 rfl (by decide) _ _ _ rfl (hrow.alloc _) ⟨W.heap.size, 0, none⟩ 1 1 [.string x] rfl rfl (cell_one_new _ _ _) (by simp [Value.oneCell']) (by unfold maxLen; omega) (by omega) (by simp; omega) ?_; intro v' w1 hown' hgrow _; obtain ⟨g', cap', rfl⟩ := ownsRow_succ hown'; obtain ⟨p1, p2, p3, p4, p5⟩ := hv.appended (by decide) (own_lowT hrow (B' := N + 1) (by omega)) (by omega) (Nat.le_refl _) (own_lowT hown' (B' := N + 1) (by omega)) hgrow; have hc1 := p1.cell; have hf1 := p1.frozen)
        refine ⟨p4.from _, p5.mono (by omega), ⟨⟨⟨_, p2, ?_, trivial⟩, ?_⟩, ?_⟩, HBB.out.trans (p5.mono (by omega))⟩
        · rw [List.length_append, List.flatMap_append]
          exact hown'.kept (grownBy_setCell' w1 (N + 1) _) (.inr (p1.not_row (by decide) hown').symm)
        · exact (p5.block N (by omega)).trans HBT.out
        · intro y hy
          rcases List.mem_append.1 hy with hy | hy
          · exact HG.out y hy
          · simp only [List.mem_singleton] at hy; subst hy; unfold hit; rw [x1, x2]; rfl
      | false =>
        gi_wp2
        exact ⟨(KeepsOthers.refl _).from _, ⟨_, _, rfl, rfl, ⟨⟨v, hv, hrow, trivial⟩, HBT.out⟩, HG.out, (by unfold hit; rw [x1, x2]; rfl)⟩, HBB.out⟩
  case done =>
    rintro D ys W hD rfl ⟨⟨⟨⟨v, hv, hrow, -⟩, bT'⟩, hg⟩, hB⟩ hK
    have hc := hv.cell
    obtain ⟨ao, n, cap, rfl⟩ := own_sliceT hrow
    have HROW := Lib.hid hrow; have HB := Lib.hid hB; have HK := Lib.hid hK; have HSZ := Lib.hid hsz; have HG := Lib.hid hg
    clear hrow hB hK hsz hg bT bL bP bF hk0 ht0 bT'
    gi_wp2
    refine ⟨by simp, .inl ⟨_, _, rfl, run_takeDeferred HK.out, ?_⟩⟩
    refine ⟨_, results_tmp rfl _ _ _, _, rfl, ?_, HB.out.trans (belowK_b (w := w) (by have := HN.out; omega) W D _ _ (by have := HN.out; omega) HK.out rfl rfl)⟩
    rw [kcut_all HG.out]
    exact ownsRow_putObj (own_lowT HROW.out (by omega)) _ HK.out rfl
  case stop =>
    rintro D c pre W hD ⟨hne, hpre⟩ ⟨⟨pre', x, rfl, rfl, ⟨⟨v, hv, hrow, -⟩, bT'⟩, hg, hx⟩, hB⟩ hK
    have hc := hv.cell
    obtain ⟨ao, n, cap, rfl⟩ := own_sliceT hrow
    have HROW := Lib.hid hrow; have HB := Lib.hid hB; have HK := Lib.hid hK; have HSZ := Lib.hid hsz; have HG := Lib.hid hg; have HX := Lib.hid hx; have HP := Lib.hid hpre
    clear hrow hB hK hsz hg bT bL bP bF hk0 ht0 bT' hx hpre hne
    gi_wp2
    refine ⟨by simp, .inl ⟨_, _, rfl, run_takeDeferred HK.out, ?_⟩⟩
    refine ⟨_, results_tmp rfl _ _ _, _, rfl, ?_, HB.out.trans (belowK_b (w := w) (by have := HN.out; omega) W D _ _ (by have := HN.out; omega) HK.out rfl rfl)⟩
    obtain ⟨z, hz⟩ := HP.out
    rw [← hz, List.append_assoc, List.singleton_append, kcut_at HG.out HX.out]
    exact ownsRow_putObj (own_lowT HROW.out (by omega)) _ HK.out rfl
end Go.Proofs.Ytfjhlckklgeokaa
