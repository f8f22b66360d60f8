/- The document's own disk: New, Write, find, Data. Conditions: texts of at most 10^9 bytes in all. -/
import Derived.Test.YtcnahhobppnbbaaDiskG
namespace Go.Proofs.Ytcnahhobppnbbaa
open Go.RowKit Go.PlainAid
set_option linter.unusedVariables false


abbrev FlT := Int × ByteArray
def flE (f : FlT) : List Value := [.int .i64 f.1, .string f.2]
theorem flE_len (f : FlT) : (flE f).length = 2 := rfl
theorem flE_one (f : FlT) : ∀ u ∈ flE f, u.oneCell' = true := by intro u hu; simp [flE] at hu; rcases hu with rfl | rfl <;> rfl
structure RkS where
  F : List FlT
  P : List FlT
  ser : Int
  boot : Int
structure RkP (S : Nat → Prop) (n : Nat) (w : World) (x : Nat) (fv pv : Value) (s : RkS) : Prop where
  blk : Blk w x 119 #[fv, pv, .int .i64 s.ser, .int .i64 s.boot]
  rF : w.ownsRow 0 131 2 fv s.F.length (s.F.flatMap flE)
  rP : w.ownsRow 0 127 2 pv s.P.length (s.P.flatMap flE)
  sx : S x ∨ n ≤ x
  sF : InS S n fv
  sP : InS S n pv
def r0S : RkS := ⟨[], [], 1, 1⟩
def rwS (s : RkS) (n : Int) (t : ByteArray) : RkS := if wrE n = 0 then ⟨s.F, s.P ++ [(n, t)], s.ser, s.boot⟩ else s
theorem rwS_ok {s : RkS} {n : Int} {t : ByteArray} (h : ¬ (n < 1 ∨ 1073741824 < n)) : wrE n = 0 ∧ rwS s n t = ⟨s.F, s.P ++ [(n, t)], s.ser, s.boot⟩ := by
  have e : wrE n = 0 := by unfold wrE; rw [if_neg h]
  exact ⟨e, by unfold rwS; rw [if_pos e]⟩
theorem rwS_no {s : RkS} {n : Int} {t : ByteArray} (h : n < 1 ∨ 1073741824 < n) : wrE n = 1 ∧ rwS s n t = s := by
  have e : wrE n = 1 := by unfold wrE; rw [if_pos h]
  exact ⟨e, by unfold rwS; rw [if_neg (by omega)]⟩
/-- A file's place among the files; is it there? -/
def fIx (l : List FlT) (n : Int) : Nat := (l.takeWhile fun f => decide (f.1 < n)).length
def fOk (l : List FlT) (n : Int) : Bool := decide (fIx l n < l.length ∧ (l.getD (fIx l n) (0, ⟨#[]⟩)).1 = n)
theorem fIx_le (l : List FlT) (n : Int) : fIx l n ≤ l.length := List.Sublist.length_le (List.takeWhile_sublist _)
theorem fIx_at {l : List FlT} {n : Int} : ∀ {k : Nat}, (∀ j, j < k → ∀ z, l[j]? = some z → z.1 < n) → (l.length = k ∨ ∃ y, l[k]? = some y ∧ ¬ y.1 < n) → fIx l n = k := by
  induction l with
  | nil => intro k _ h2; rcases h2 with h2 | ⟨y, hy, _⟩; simpa [fIx] using h2; simp at hy
  | cons a r ih =>
    intro k h1 h2
    cases k with
    | zero =>
      rcases h2 with h2 | ⟨y, hy, hn⟩
      · simp at h2
      · simp at hy; subst hy; simp [fIx, hn]
    | succ k =>
      have ha := h1 0 (by omega) a rfl
      have hi : fIx r n = k := ih (fun j hj z hz => h1 (j + 1) (by omega) z (by simpa using hz)) (by
        rcases h2 with h2 | ⟨y, hy, hn⟩
        · left; simpa using h2
        · right; exact ⟨y, by simpa using hy, hn⟩)
      unfold fIx at hi ⊢
      rw [List.takeWhile_cons]; simp [ha, hi]
theorem fOk_y {l : List FlT} {n : Int} {k : Nat} {y : FlT} (h : fIx l n = k) (hy : l[k]? = some y) : (y.1 == n) = decide (fIx l n < l.length ∧ (l.getD (fIx l n) (0, ⟨#[]⟩)).1 = n) := by
  subst h
  have hk := (List.getElem?_eq_some_iff.1 hy).1
  rw [List.getD_eq_getElem?_getD, hy, Bool.eq_iff_iff]; simp [hk]
theorem fOk_n {l : List FlT} {n : Int} {k : Nat} (h : fIx l n = k) (hk : l.length ≤ k) : false = decide (fIx l n < l.length ∧ (l.getD (fIx l n) (0, ⟨#[]⟩)).1 = n) := by
  symm; rw [decide_eq_false_iff_not]; omega
theorem fl_next {l : List FlT} {k : Nat} {n : Int} {y : FlT} (hb : ∀ j, j < k → ∀ z, l[j]? = some z → z.1 < n) (hy : l[k]? = some y) (h : y.1 < n) : ∀ j, j < k + 1 → ∀ z, l[j]? = some z → z.1 < n := by
  intro j hj z hz
  by_cases e : j = k
  · subst e; rw [hy] at hz; cases hz; exact h
  · exact hb j (by omega) z hz
def safR (F : List FlT) (n : Int) : ByteArray := if fOk F n = true then (F.getD (fIx F n) (0, ⟨#[]⟩)).2 else ⟨#[]⟩
theorem safR_y {F : List FlT} {n : Int} {y : FlT} (h : fIx F n < F.length ∧ (F.getD (fIx F n) (0, ⟨#[]⟩)).1 = n) (hy : F[fIx F n]? = some y) : y.2 = safR F n := by unfold safR fOk; rw [if_pos (decide_eq_true h), List.getD_eq_getElem?_getD, hy]; rfl
theorem safR_n {F : List FlT} {n : Int} (h : ¬ (fIx F n < F.length ∧ (F.getD (fIx F n) (0, ⟨#[]⟩)).1 = n)) : (⟨#[]⟩ : ByteArray) = safR F n := by unfold safR fOk; rw [if_neg (by rw [decide_eq_true_eq]; exact h)]
def flOk (p : FlT) : Prop := p.2.size ≤ 1000000000
def catR (a : ByteArray) (P : List FlT) (n : Int) : ByteArray := P.foldl (fun a p => if p.1 = n then a ++ p.2 else a) a
theorem catR_y {a : ByteArray} {P : List FlT} {n : Int} {i : Nat} {y : FlT} (h : P[i]? = some y) (e : y.1 = n) : catR a (P.take i) n ++ y.2 = catR a (P.take (i + 1)) n := by
  rw [takeD_at h]; unfold catR; rw [List.foldl_append]; simp [e]
theorem catR_n {a : ByteArray} {P : List FlT} {n : Int} {i : Nat} {y : FlT} (h : P[i]? = some y) (e : ¬ y.1 = n) : catR a (P.take i) n = catR a (P.take (i + 1)) n := by
  rw [takeD_at h]; unfold catR; rw [List.foldl_append]; simp [e]
def datR (s : RkS) (n : Int) : ByteArray := catR (safR s.F n) s.P n

set_option maxRecDepth 100000 in
theorem rNew_any  (w : World)  :
    Calls Try.prog 16 #[] w fun e w' => ∃ (N : Nat), e = .returned (pt N 0) ∧ RkP (fun _ => False) w.heap.size w' N (.slice none 0 0) (.slice none 0 0) r0S ∧ Below w.heap.size w w' := by
 have hB0 := Below.refl w.heap.size w
 refine co_enter (n := 3) Try.func16 rfl rfl rfl [] rfl (fun a h0 => ?_)
 refine co_seq ?_
 refine co_reg ?_
 refine pk0 (v := .pointer none) h0 rfl fun a1 h1 => ?_; clear h0
 refine pl_nil ?_
 refine co_then ?_
 refine co_seq ?_
 refine co_reg ?_
 refine pk0 (v := .agg #[.slice none 0 0, .slice none 0 0, .int .i64 1, .int .i64 1]) h1 rfl fun a2 h2 => ?_; clear h1
 refine pw h2 rfl (op_new (v := fun N => pt N 0) (T := 119) (cs := #[.slice none 0 0, .slice none 0 0, .int .i64 1, .int .i64 1]) (by kernel_rfl) (by kernel_rfl) (by kernel_rfl)) ?_; clear h2
 rintro _ w4 a3 ⟨N5, rfl, hN8, hz9, hk7, hg6⟩ h3
 have hz10 := hg6.size
 try dsimp only at h3
 refine pk0 (v := pt N5 0) h3 rfl fun a11 h11 => ?_; clear h3
 refine pl_nil ?_
 refine co_then ?_
 refine wp_ret ?_
 refine co_ret1 h11 rfl rfl ?_
 have hB12 := hb_new hB0 hg6
 exact ⟨_, rfl, ⟨hk7, World.ownsRow_nil _ _ _ _, World.ownsRow_nil _ _ _ _, .inr (by omega), InS.nil, InS.nil⟩, hB12⟩
set_option maxRecDepth 100000 in
theorem rWrite_any (w0 : World) (S : Nat → Prop) (xo : Nat) (fv : Value) (pv : Value) (s : RkS) (number : Int) (t : ByteArray) (w : World) (hbw : But S w0 w) (hO : RkP S w0.heap.size w xo fv pv s) (hpl : s.P.length ≤ 100000) :
    Calls Try.prog 26 #[pt xo 0, .int .i64 number, .string t] w fun e w' => ∃ (pv' : Value), e = .returned (.int .i64 (wrE number)) ∧ RkP S w0.heap.size w' xo fv pv' (rwS s number t) ∧ But (S) w0 w' := by
 have hB0 := hbw
 have hz0 := hbw.size
 have hz0 := hbw.size
 have hl1 := hO.blk.lt
 have hl2 := sl_len (row_sl hO.rF flE_len)
 have hl3 := sl_len (row_sl hO.rP flE_len)
 refine co_enter (n := 29) Try.func26 rfl rfl rfl [(0, pt xo 0), (1, .int .i64 number), (2, .string t)] rfl (fun a h0 => ?_)
 refine co_seq ?_
 refine co_reg ?_
 refine pk0 (v := .int .i64 0) h0 rfl fun a4 h4 => ?_; clear h0
 refine pl_nil ?_
 refine co_then ?_
 refine co_seq ?_
 refine co_seq ?_
 refine co_reg ?_
 refine pk0 (v := .int .i64 number) h4 rfl fun a5 h5 => ?_; clear h4
 refine pk0 (v := .bool (decide (number < 1))) h5 rfl fun a6 h6 => ?_; clear h5
 refine pk0 (v := .bool (decide (number < 1))) h6 rfl fun a7 h7 => ?_; clear h6
 cases hc8 : (decide (number < 1))
 ·
  rw [hc8] at h7
  have hp9 : ¬ (number < 1) := of_decide_eq_false hc8
  clear hc8
  refine pk0 (v := .int .i64 number) h7 rfl fun a10 h10 => ?_; clear h7
  refine pk0 (v := .bool (decide (number > 1073741824))) h10 rfl fun a11 h11 => ?_; clear h10
  refine pk0 (v := .bool (decide (number > 1073741824))) h11 rfl fun a12 h12 => ?_; clear h11
  refine pl_nil ?_
  refine co_then ?_
  cases hc13 : (decide (number > 1073741824))
  ·
   rw [hc13] at h12
   have hp14 : ¬ (number > 1073741824) := of_decide_eq_false hc13
   clear hc13
   refine co_false h12 rfl ?_
   refine wp_skip ?_
   refine co_then ?_
   refine co_seq ?_
   refine co_reg ?_
   refine pw h12 rfl (op_new (v := fun N => .slice (some ⟨N, 0, none⟩) 0 0) (T := 127) (cs := #[]) (by kernel_rfl) (by kernel_rfl) (by kernel_rfl)) ?_; clear h12
   rintro _ w16 a15 ⟨N17, rfl, hN20, hz21, hk19, hg18⟩ h15
   have ha22 := row_fresh hO.rF hN20
   have hu23 := row_under hO.rF hN20
   have ha24 := row_fresh hO.rP hN20
   have hu25 := row_under hO.rP hN20
   have hz26 := hg18.size
   try dsimp only at h15
   refine pk0 (v := pt xo 0) h15 rfl fun a27 h27 => ?_; clear h15
   refine pk0 (v := pt xo 0) h27 rfl fun a28 h28 => ?_; clear h27
   refine pk0 (v := pt xo 1) h28 rfl fun a29 h29 => ?_; clear h28
   have hk30 := hO.blk.kept hg18 (by simp)
   refine pk (v := pv) h29 rfl (rn_load1 rfl rfl Try.isAgg117 (hk30.cell rfl)) fun a31 h31 => ?_; clear h29
   have hr34 := row_of_blkL hk19 (Nat.le_refl _) 2 flE
   have hr39 := row_kept_new hO.rP hg18
   refine pw h31 rfl (op_appendSrc rfl N17 127 (z := .agg #[.int .i64 0, .string (⟨#[]⟩)]) (size := 2) (bytes := 24) Try.underlying117 (by kernel_rfl) rfl rfl rfl hr34 rfl (row_sl hr39 flE_len) (fun y _ => ⟨flE_len y, flE_one y⟩) (by first | omega | (simp only [List.length_nil, List.length_append, List.length_cons, List.length_take, List.length_drop]; omega)) (by first | omega | (simp only [List.length_nil, List.length_append, List.length_cons, List.length_take, List.length_drop]; omega)) (by omega)) ?_; clear h31
   rintro v35 w33 a32 ⟨hr36, hg37⟩ h32
   have hr36' : w33.ownsRow N17 127 2 v35 s.P.length (s.P.flatMap flE) := row_app (l := []) hr36; clear hr36
   have hz40 := hg37.size
   refine pk0 (v := .int .i64 number) h32 rfl fun a41 h41 => ?_; clear h32
   refine pk0 (v := .string t) h41 rfl fun a42 h42 => ?_; clear h41
   refine pk0 (v := .agg #[.int .i64 number, .string t]) h42 rfl fun a43 h43 => ?_; clear h42
   refine pw h43 rfl (op_new (v := fun N => .slice (some ⟨N, 0, none⟩) 1 1) (T := 127) (cs := #[.int .i64 number, .string t]) (by kernel_rfl) (by kernel_rfl) (by kernel_rfl)) ?_; clear h43
   rintro _ w45 a44 ⟨N46, rfl, hN49, hz50, hk48, hg47⟩ h44
   have hr52 := row_kept_new hO.rF hg18
   have hr53 := row_kept_ap hr52 hr34 hu23 hg37
   have ha51 := row_fresh hr53 hN49
   have hu54 := row_under hr53 hN49
   have hr56 := row_kept_ap hr39 hr34 hu25 hg37
   have ha55 := row_fresh hr56 hN49
   have hu57 := row_under hr56 hN49
   have ha58 := row_fresh hr36' hN49
   have hu59 := row_under hr36' hN49
   have hz60 := hg47.size
   try dsimp only at h44
   have hr67 := row_kept_new hr36' hg47
   refine pw h44 rfl (op_append rfl N17 127 (z := .agg #[.int .i64 0, .string (⟨#[]⟩)]) (size := 2) (bytes := 24) Try.underlying117 (by kernel_rfl) rfl rfl rfl hr67 rfl hk48 rfl (by kernel_rfl) (by first | omega | (simp only [List.length_nil, List.length_append, List.length_cons, List.length_take, List.length_drop]; omega)) (by first | omega | (simp only [List.length_nil, List.length_append, List.length_cons, List.length_take, List.length_drop]; omega)) (by omega)) ?_; clear h44
   rintro v63 w62 a61 ⟨hr64, hg65⟩ h61
   have hr64' : w62.ownsRow N17 127 2 v63 ((s.P ++ [(number, t)]).length) ((s.P ++ [(number, t)]).flatMap flE) := row_push (y := (number, t)) hr64 rfl rfl; clear hr64
   have hz68 := hg65.size
   have hk69 := hk30.kept hg37 (own_neT hr34 hk30 (by decide))
   have hk70 := hk69.kept hg47 (by simp)
   refine pk0 (v := v63) h61 rfl fun a71 h71 => ?_; clear h61
   refine pl_nil ?_
   refine co_then ?_
   refine co_seq ?_
   refine co_reg ?_
   refine pk0 (v := pt xo 0) h71 rfl fun a72 h72 => ?_; clear h71
   refine pk0 (v := v63) h72 rfl fun a73 h73 => ?_; clear h72
   refine pk0 (v := pt xo 0) h73 rfl fun a74 h74 => ?_; clear h73
   refine pk0 (v := pt xo 1) h74 rfl fun a75 h75 => ?_; clear h74
   have hk81 := hk70.kept hg65 (own_neT hr67 hk70 (by decide))
   refine pwD h75 rfl (op_store1 rfl rfl rfl (row_one hr64') Try.sizeOf117 hk81 rfl) ?_; clear h75
   rintro _ w77 a76 ⟨hk78, hz79, hg80⟩ h76
   have hk78' : Blk w77 xo 119 #[fv, v63, .int .i64 s.ser, .int .i64 s.boot] := hk78; clear hk78
   have hz82 := hg80.size
   refine pl_nil ?_
   refine co_then ?_
   refine co_seq ?_
   refine co_reg ?_
   refine pk0 (v := .int .i64 0) h76 rfl fun a83 h83 => ?_; clear h76
   refine pl_nil ?_
   refine co_then ?_
   refine wp_ret ?_
   refine co_ret1 h83 rfl rfl ?_
   have hr84 := row_kept_new hr53 hg47
   have hr85 := row_kept_ap hr84 hr67 hu23 hg65
   have hr86 := row_kept_at hr85 hg80 (own_neT hr85 hk81 (by decide))
   have hr87 := row_kept_at hr64' hg80 (own_neT hr64' hk81 (by decide))
   have hB88 := fbU_new hB0 hg18
   have hB89 := fbU_row hB88 (InS.low hr34 (by omega)) hg37
   have hB90 := fbU_new hB89 hg47
   have hB91 := fbU_row hB90 (InS.low hr67 (by omega)) hg65
   have hB92 := fbU_at hB91 hg80 (fun hlt => by rcases hO.sx with hq | hq; exact hq; omega)
   have hW := rwS_ok (s := s) (t := t) (show ¬ (number < 1 ∨ 1073741824 < number) by omega)
   exact ⟨_, by rw [hW.1], by rw [hW.2]; exact ⟨hk78', (row_lows hr86 (Nat.zero_le _)), (row_lows hr87 (Nat.zero_le _)), hO.sx, hO.sF, (InS.low hr87 (by omega))⟩, hB92⟩
  ·
   rw [hc13] at h12
   have hp93 : number > 1073741824 := of_decide_eq_true hc13
   clear hc13
   refine co_true h12 rfl ?_
   refine co_seq ?_
   refine co_reg ?_
   refine pk0 (v := .int .i64 1) h12 rfl fun a94 h94 => ?_; clear h12
   refine pl_nil ?_
   refine co_then ?_
   refine wp_ret ?_
   refine co_thenR ?_
   refine co_ret1 h94 rfl rfl ?_
   have hW := rwS_no (s := s) (t := t) (show number < 1 ∨ 1073741824 < number by omega)
   exact ⟨pv, by rw [hW.1], by rw [hW.2]; exact ⟨hO.blk, (row_lows hO.rF (Nat.zero_le _)), (row_lows hO.rP (Nat.zero_le _)), hO.sx, hO.sF, hO.sP⟩, hB0⟩
 ·
  rw [hc8] at h7
  have hp95 : number < 1 := of_decide_eq_true hc8
  clear hc8
  refine psk h7 rfl fun a96 h96 => ?_; clear h7
  refine psk h96 rfl fun a97 h97 => ?_; clear h96
  refine pk0 (v := .bool true) h97 rfl fun a98 h98 => ?_; clear h97
  refine pl_nil ?_
  refine co_then ?_
  refine co_true h98 rfl ?_
  refine co_seq ?_
  refine co_reg ?_
  refine pk0 (v := .int .i64 1) h98 rfl fun a99 h99 => ?_; clear h98
  refine pl_nil ?_
  refine co_then ?_
  refine wp_ret ?_
  refine co_thenR ?_
  refine co_ret1 h99 rfl rfl ?_
  have hW := rwS_no (s := s) (t := t) (show number < 1 ∨ 1073741824 < number by omega)
  exact ⟨pv, by rw [hW.1], by rw [hW.2]; exact ⟨hO.blk, (row_lows hO.rF (Nat.zero_le _)), (row_lows hO.rP (Nat.zero_le _)), hO.sx, hO.sF, hO.sP⟩, hB0⟩
set_option maxRecDepth 100000 in
theorem rFind_any (xo : Nat) (fv : Value) (pv : Value) (ser : Int) (boot : Int) (l : List FlT) (n : Int) (w : World) (hX : Blk w xo 119 #[fv, pv, .int .i64 ser, .int .i64 boot]) (hs : SliceOf flE 2 w fv l) :
    Calls Try.prog 83 #[pt xo 0, .int .i64 n] w fun e w' => e = .returned (.tuple #[.int .i64 ((fIx l n : Nat) : Int), .bool (decide (fIx l n < l.length ∧ (l.getD (fIx l n) (0, ⟨#[]⟩)).1 = n))]) ∧ Below w.heap.size w w' := by
 have hB0 := Below.refl w.heap.size w
 have hl_hX := hX.lt
 have hl_hs := sl_len hs
 refine co_enter (n := 48) Try.func83 rfl rfl rfl [(0, pt xo 0), (1, .int .i64 n)] rfl (fun a h0 => ?_)
 refine co_seq ?_
 refine co_reg ?_
 refine pk0 (v := .int .i64 0) h0 rfl fun a1 h1 => ?_; clear h0
 refine pk0 (v := .bool false) h1 rfl fun a2 h2 => ?_; clear h1
 refine pl_nil ?_
 refine co_then ?_
 refine co_seq ?_
 refine co_reg ?_
 refine pk0 (v := .int .i64 0) h2 rfl fun a3 h3 => ?_; clear h2
 refine pl_nil ?_
 refine co_then ?_
 refine co_seq ?_
 refine wp_block ?_
 have h4 : Slots 48 [(0, pt xo 0), (1, .int .i64 n), (6, .int .i64 0)] _ := h3.sub ⟨rfl, rfl, rfl, trivial⟩; clear h3
 refine co_loop (fun mm a x => ∃ (k : Nat), Slots 48 [(0, pt xo 0), (1, .int .i64 n), (6, .int .i64 ((k : Nat) : Int))] a ∧ mm = l.length - k ∧ (k ≤ l.length) ∧ (∀ j, j < k → ∀ z, l[j]? = some z → z.1 < n) ∧ Below w.heap.size w x ∧ Blk x xo 119 #[fv, pv, .int .i64 ser, .int .i64 boot]) (l.length - 0) ?_ ?_
 · exact ⟨0, h4.sub ⟨rfl, rfl, (slot_eq rfl (congrArg (Value.int .i64) (by first | rfl | omega))), trivial⟩, rfl, by omega, by first | (intro j hj; omega) | exact fl_next (by assumption) (by assumption) (by omega), hB0, hX⟩
 · rintro k5 a6 w7 ⟨k, h6, rfl, hi8, hi9, hB10, hk11⟩
   have hz12 := hB10.size
   have hl13 := hk11.lt
   refine co_seq ?_
   refine co_seq ?_
   refine co_reg ?_
   refine pk0 (v := .int .i64 ((k : Nat) : Int)) h6 rfl fun a14 h14 => ?_; clear h6
   refine pk0 (v := pt xo 0) h14 rfl fun a15 h15 => ?_; clear h14
   refine pk0 (v := pt xo 0) h15 rfl fun a16 h16 => ?_; clear h15
   refine pk0 (v := pt xo 0) h16 rfl fun a17 h17 => ?_; clear h16
   refine pk (v := fv) h17 rfl (rn_load1 rfl rfl Try.isAgg116 (hk11.cell rfl)) fun a18 h18 => ?_; clear h17
   refine pk (v := .int .i64 ((l.length : Nat) : Int)) h18 rfl (rn_len rfl rfl Try.underlying116 (hs.below hB10)) fun a19 h19 => ?_; clear h18
   refine pk0 (v := .bool (decide (((k : Nat) : Int) < ((l.length : Nat) : Int)))) h19 rfl fun a20 h20 => ?_; clear h19
   refine pk0 (v := .bool (decide (((k : Nat) : Int) < ((l.length : Nat) : Int)))) h20 rfl fun a21 h21 => ?_; clear h20
   cases hc22 : (decide (((k : Nat) : Int) < ((l.length : Nat) : Int)))
   ·
    rw [hc22] at h21
    have hp23 : ¬ (((k : Nat) : Int) < ((l.length : Nat) : Int)) := of_decide_eq_false hc22
    clear hc22
    refine psk h21 rfl fun a24 h24 => ?_; clear h21
    refine psk h24 rfl fun a25 h25 => ?_; clear h24
    refine psk h25 rfl fun a26 h26 => ?_; clear h25
    refine psk h26 rfl fun a27 h27 => ?_; clear h26
    refine psk h27 rfl fun a28 h28 => ?_; clear h27
    refine psk h28 rfl fun a29 h29 => ?_; clear h28
    refine psk h29 rfl fun a30 h30 => ?_; clear h29
    refine psk h30 rfl fun a31 h31 => ?_; clear h30
    refine psk h31 rfl fun a32 h32 => ?_; clear h31
    refine psk h32 rfl fun a33 h33 => ?_; clear h32
    refine pk0 (v := .bool false) h33 rfl fun a34 h34 => ?_; clear h33
    refine pl_nil ?_
    refine co_then ?_
    refine co_false h34 rfl ?_
    refine wp_exit ?_
    refine co_thenX ?_
    refine co_thenX ?_
    refine co_blockX ?_
    refine co_then ?_
    refine co_seq ?_
    refine dr_eq (by kernel_rfl) (fun w35 hg36 => ?_)
    have hz37 := hg36.size
    refine dk0 0 (v := .int .i64 ((k : Nat) : Int)) h34 rfl rfl rfl fun a38 h38 => ?_; clear h34
    refine dk0 1 (v := .int .i64 ((k : Nat) : Int)) h38 rfl rfl rfl fun a39 h39 => ?_; clear h38
    refine dk0 2 (v := pt xo 0) h39 rfl rfl rfl fun a40 h40 => ?_; clear h39
    refine dk0 3 (v := pt xo 0) h40 rfl rfl rfl fun a41 h41 => ?_; clear h40
    refine dk0 4 (v := pt xo 0) h41 rfl rfl rfl fun a42 h42 => ?_; clear h41
    have hk43 := hk11.kept hg36 (by simp)
    refine dk 5 (v := fv) h42 rfl rfl rfl (fun x hx => by subst hx; exact (rn_load1 rfl rfl Try.isAgg116 (hk43.cell rfl))) fun a44 h44 => ?_; clear h42
    have hB45 := hb_new hB10 hg36
    refine dk 6 (v := .int .i64 ((l.length : Nat) : Int)) h44 rfl rfl rfl (fun x hx => by subst hx; exact (rn_len rfl rfl Try.underlying116 (hs.below hB45))) fun a46 h46 => ?_; clear h44
    refine dk0 7 (v := .bool (decide (((k : Nat) : Int) < ((l.length : Nat) : Int)))) h46 rfl rfl rfl fun a47 h47 => ?_; clear h46
    refine dk0 8 (v := .bool (decide (((k : Nat) : Int) < ((l.length : Nat) : Int)))) h47 rfl rfl rfl fun a48 h48 => ?_; clear h47
    have hc49 : (decide (((k : Nat) : Int) < ((l.length : Nat) : Int))) = false := decide_eq_false (by omega)
    rw [hc49] at h48; clear hc49
    refine dsk 9 h48 rfl rfl rfl fun a50 h50 => ?_; clear h48
    refine dsk 10 h50 rfl rfl rfl fun a51 h51 => ?_; clear h50
    refine dsk 11 h51 rfl rfl rfl fun a52 h52 => ?_; clear h51
    refine dsk 12 h52 rfl rfl rfl fun a53 h53 => ?_; clear h52
    refine dsk 13 h53 rfl rfl rfl fun a54 h54 => ?_; clear h53
    refine dsk 14 h54 rfl rfl rfl fun a55 h55 => ?_; clear h54
    refine dsk 15 h55 rfl rfl rfl fun a56 h56 => ?_; clear h55
    refine dsk 16 h56 rfl rfl rfl fun a57 h57 => ?_; clear h56
    refine dsk 17 h57 rfl rfl rfl fun a58 h58 => ?_; clear h57
    refine dsk 18 h58 rfl rfl rfl fun a59 h59 => ?_; clear h58
    refine dk0 19 (v := .bool false) h59 rfl rfl rfl fun a60 h60 => ?_; clear h59
    refine dk0 20 (v := .int .i64 ((k : Nat) : Int)) h60 rfl rfl rfl fun a61 h61 => ?_; clear h60
    refine dk0 21 (v := .bool false) h61 rfl rfl rfl fun a62 h62 => ?_; clear h61
    refine dr_done (by kernel_rfl) ?_
    refine co_then ?_
    refine wp_ret ?_
    refine co_ret2 h62 rfl rfl rfl ?_
    have hix := fIx_at (k := k) (by assumption) (by first | exact .inl (by omega) | exact .inr ⟨_, by assumption, by omega⟩)
    exact ⟨by rw [← fOk_n hix (by omega), hix], hB45⟩
   ·
    rw [hc22] at h21
    have hp63 : ((k : Nat) : Int) < ((l.length : Nat) : Int) := of_decide_eq_true hc22
    clear hc22
    refine pk0 (v := pt xo 0) h21 rfl fun a64 h64 => ?_; clear h21
    refine pk0 (v := pt xo 0) h64 rfl fun a65 h65 => ?_; clear h64
    refine pk0 (v := pt xo 0) h65 rfl fun a66 h66 => ?_; clear h65
    refine pk (v := fv) h66 rfl (rn_load1 rfl rfl Try.isAgg116 (hk11.cell rfl)) fun a67 h67 => ?_; clear h66
    refine pk0 (v := .int .i64 ((k : Nat) : Int)) h67 rfl fun a68 h68 => ?_; clear h67
    obtain ⟨y69, hy69⟩ : ∃ z, l[k]? = some z := ⟨_, List.getElem?_eq_getElem (by first | omega | (simp; done) | (simp; omega))⟩
    refine pk (v := pt (blkOf fv) (offOf fv + k * 2)) h68 rfl (rn_index rfl rfl rfl Try.underlying116 Try.sizeOf131 (hs.below hB10) (by omega) (by first | omega | (simp; done) | (simp; omega))) fun a70 h70 => ?_; clear h68
    refine pk0 (v := pt (blkOf fv) (offOf fv + k * 2)) h70 rfl fun a71 h71 => ?_; clear h70
    refine pk (v := .int .i64 y69.1) h71 rfl (rn_load1 rfl rfl Try.isAgg3 ((sl_at (hs.below hB10) hy69) 0 _ rfl)) fun a72 h72 => ?_; clear h71
    refine pk0 (v := .int .i64 n) h72 rfl fun a73 h73 => ?_; clear h72
    refine pk0 (v := .bool (decide (y69.1 < n))) h73 rfl fun a74 h74 => ?_; clear h73
    refine pk0 (v := .bool (decide (y69.1 < n))) h74 rfl fun a75 h75 => ?_; clear h74
    refine pl_nil ?_
    refine co_then ?_
    cases hc76 : (decide (y69.1 < n))
    ·
     rw [hc76] at h75
     have hp77 : ¬ (y69.1 < n) := of_decide_eq_false hc76
     clear hc76
     refine co_false h75 rfl ?_
     refine wp_exit ?_
     refine co_thenX ?_
     refine co_thenX ?_
     refine co_blockX ?_
     refine co_then ?_
     refine co_seq ?_
     refine dr_eq (by kernel_rfl) (fun w78 hg79 => ?_)
     have hz80 := hg79.size
     refine dk0 0 (v := .int .i64 ((k : Nat) : Int)) h75 rfl rfl rfl fun a81 h81 => ?_; clear h75
     refine dk0 1 (v := .int .i64 ((k : Nat) : Int)) h81 rfl rfl rfl fun a82 h82 => ?_; clear h81
     refine dk0 2 (v := pt xo 0) h82 rfl rfl rfl fun a83 h83 => ?_; clear h82
     refine dk0 3 (v := pt xo 0) h83 rfl rfl rfl fun a84 h84 => ?_; clear h83
     refine dk0 4 (v := pt xo 0) h84 rfl rfl rfl fun a85 h85 => ?_; clear h84
     have hk86 := hk11.kept hg79 (by simp)
     refine dk 5 (v := fv) h85 rfl rfl rfl (fun x hx => by subst hx; exact (rn_load1 rfl rfl Try.isAgg116 (hk86.cell rfl))) fun a87 h87 => ?_; clear h85
     have hB88 := hb_new hB10 hg79
     refine dk 6 (v := .int .i64 ((l.length : Nat) : Int)) h87 rfl rfl rfl (fun x hx => by subst hx; exact (rn_len rfl rfl Try.underlying116 (hs.below hB88))) fun a89 h89 => ?_; clear h87
     refine dk0 7 (v := .bool (decide (((k : Nat) : Int) < ((l.length : Nat) : Int)))) h89 rfl rfl rfl fun a90 h90 => ?_; clear h89
     refine dk0 8 (v := .bool (decide (((k : Nat) : Int) < ((l.length : Nat) : Int)))) h90 rfl rfl rfl fun a91 h91 => ?_; clear h90
     have hc92 : (decide (((k : Nat) : Int) < ((l.length : Nat) : Int))) = true := decide_eq_true (by omega)
     rw [hc92] at h91; clear hc92
     refine dk0 9 (v := pt xo 0) h91 rfl rfl rfl fun a93 h93 => ?_; clear h91
     refine dk0 10 (v := pt xo 0) h93 rfl rfl rfl fun a94 h94 => ?_; clear h93
     refine dk0 11 (v := pt xo 0) h94 rfl rfl rfl fun a95 h95 => ?_; clear h94
     refine dk 12 (v := fv) h95 rfl rfl rfl (fun x hx => by subst hx; exact (rn_load1 rfl rfl Try.isAgg116 (hk86.cell rfl))) fun a96 h96 => ?_; clear h95
     refine dk0 13 (v := .int .i64 ((k : Nat) : Int)) h96 rfl rfl rfl fun a97 h97 => ?_; clear h96
     refine dk 14 (v := pt (blkOf fv) (offOf fv + k * 2)) h97 rfl rfl rfl (fun x hx => by subst hx; exact (rn_index rfl rfl rfl Try.underlying116 Try.sizeOf131 (hs.below hB88) (by omega) (by first | omega | (simp; done) | (simp; omega)))) fun a98 h98 => ?_; clear h97
     refine dk0 15 (v := pt (blkOf fv) (offOf fv + k * 2)) h98 rfl rfl rfl fun a99 h99 => ?_; clear h98
     refine dk 16 (v := .int .i64 y69.1) h99 rfl rfl rfl (fun x hx => by subst hx; exact (rn_load1 rfl rfl Try.isAgg3 ((sl_at (hs.below hB88) hy69) 0 _ rfl))) fun a100 h100 => ?_; clear h99
     refine dk0 17 (v := .int .i64 n) h100 rfl rfl rfl fun a101 h101 => ?_; clear h100
     refine dk0 18 (v := .bool (y69.1 == n)) h101 rfl rfl rfl fun a102 h102 => ?_; clear h101
     refine dk0 19 (v := .bool (y69.1 == n)) h102 rfl rfl rfl fun a103 h103 => ?_; clear h102
     refine dk0 20 (v := .int .i64 ((k : Nat) : Int)) h103 rfl rfl rfl fun a104 h104 => ?_; clear h103
     refine dk0 21 (v := .bool (y69.1 == n)) h104 rfl rfl rfl fun a105 h105 => ?_; clear h104
     refine dr_done (by kernel_rfl) ?_
     refine co_then ?_
     refine wp_ret ?_
     refine co_ret2 h105 rfl rfl rfl ?_
     have hix := fIx_at (k := k) (by assumption) (by first | exact .inl (by omega) | exact .inr ⟨_, by assumption, by omega⟩)
     exact ⟨by rw [← fOk_y hix (by assumption), hix], hB88⟩
    ·
     rw [hc76] at h75
     have hp106 : y69.1 < n := of_decide_eq_true hc76
     clear hc76
     refine co_true h75 rfl ?_
     refine wp_skip ?_
     refine co_then ?_
     refine wp_block ?_
     refine co_reg ?_
     refine pk0 (v := .int .i64 ((k : Nat) : Int)) h75 rfl fun a107 h107 => ?_; clear h75
     refine pk (v := .int .i64 ((k + 1 : Nat) : Int)) h107 rfl (rn_arith' rfl rfl rfl rfl rfl rfl (IntWalk.i64_in _ (by omega)) (by omega)) fun a108 h108 => ?_; clear h107
     refine pk0 (v := .int .i64 ((k + 1 : Nat) : Int)) h108 rfl fun a109 h109 => ?_; clear h108
     refine pl_nil ?_
     refine co_blockN ?_
     refine co_then ?_
     refine ⟨(l.length - (k + 1)), by omega, ?_⟩
     exact ⟨k + 1, h109.sub ⟨rfl, rfl, rfl, trivial⟩, rfl, by omega, by first | (intro j hj; omega) | exact fl_next (by assumption) (by assumption) (by omega), hB10, hk11⟩
set_option maxRecDepth 100000 in
theorem rData_any (xo : Nat) (fv : Value) (pv : Value) (ser : Int) (boot : Int) (F : List FlT) (P : List FlT) (n : Int) (w : World) (hX : Blk w xo 119 #[fv, pv, .int .i64 ser, .int .i64 boot]) (hs : SliceOf flE 2 w fv F) (hs2 : SliceOf flE 2 w pv P) (hpz : ∀ z ∈ P, flOk z) (hcz : ∀ i, (catR (safR F n) (P.take i) n).size ≤ 1000000000) :
    Calls Try.prog 27 #[pt xo 0, .int .i64 n] w fun e w' => e = .returned (.string (catR (safR F n) P n)) ∧ Below w.heap.size w w' := by
 have hB0 := Below.refl w.heap.size w
 have hl_hX := hX.lt
 have hl_hs := sl_len hs
 have hl_hs2 := sl_len hs2
 refine co_enter (n := 54) Try.func27 rfl rfl rfl [(0, pt xo 0), (1, .int .i64 n)] rfl (fun a h0 => ?_)
 refine co_seq ?_
 refine co_reg ?_
 refine pk0 (v := .string (⟨#[]⟩)) h0 rfl fun a1 h1 => ?_; clear h0
 refine pl_nil ?_
 refine co_then ?_
 refine co_seq ?_
 refine co_reg ?_
 refine pk0 (v := .string (⟨#[]⟩)) h1 rfl fun a2 h2 => ?_; clear h1
 refine pl_nil ?_
 refine co_then ?_
 refine co_seq ?_
 refine co_seq ?_
 refine co_reg ?_
 refine pk0 (v := pt xo 0) h2 rfl fun a3 h3 => ?_; clear h2
 refine pk0 (v := .int .i64 n) h3 rfl fun a4 h4 => ?_; clear h3
 have hfi7 := fIx_le F n
 refine pw h4 rfl (op_call (args := #[pt xo 0, .int .i64 n]) (R := fun res xw => res = .tuple #[.int .i64 ((fIx F n : Nat) : Int), .bool (decide (fIx F n < F.length ∧ (F.getD (fIx F n) (0, ⟨#[]⟩)).1 = n))] ∧ Below w.heap.size w xw) rfl rfl rfl (by kernel_rfl) (by kernel_rfl) (Try.call83 _ _) (rFind_any xo fv pv ser boot F n w hX hs) (by rintro e x ⟨rfl, hb8⟩; exact ⟨_, rfl, ⟨rfl, hb8⟩⟩)) ?_; clear h4
 rintro _ w6 a5 ⟨rfl, hb8⟩ h5
 have hz9 := hb8.size
 refine pk0 (v := .tuple #[.int .i64 ((fIx F n : Nat) : Int), .bool (decide (fIx F n < F.length ∧ (F.getD (fIx F n) (0, ⟨#[]⟩)).1 = n))]) h5 rfl fun a10 h10 => ?_; clear h5
 refine pk0 (v := .int .i64 ((fIx F n : Nat) : Int)) h10 rfl fun a11 h11 => ?_; clear h10
 refine pk0 (v := .bool (decide (fIx F n < F.length ∧ (F.getD (fIx F n) (0, ⟨#[]⟩)).1 = n))) h11 rfl fun a12 h12 => ?_; clear h11
 refine pk0 (v := .int .i64 ((fIx F n : Nat) : Int)) h12 rfl fun a13 h13 => ?_; clear h12
 refine pk0 (v := .bool (decide (fIx F n < F.length ∧ (F.getD (fIx F n) (0, ⟨#[]⟩)).1 = n))) h13 rfl fun a14 h14 => ?_; clear h13
 refine pl_nil ?_
 refine co_then ?_
 refine co_seq ?_
 refine co_reg ?_
 refine pk0 (v := .bool (decide (fIx F n < F.length ∧ (F.getD (fIx F n) (0, ⟨#[]⟩)).1 = n))) h14 rfl fun a15 h15 => ?_; clear h14
 refine pl_nil ?_
 refine co_then ?_
 have hB17 := hb_call hB0 hb8
 cases hc16 : (decide (fIx F n < F.length ∧ (F.getD (fIx F n) (0, ⟨#[]⟩)).1 = n))
 ·
  rw [hc16] at h15
  have hp18 : ¬ (fIx F n < F.length ∧ (F.getD (fIx F n) (0, ⟨#[]⟩)).1 = n) := of_decide_eq_false hc16
  clear hc16
  refine co_false h15 rfl ?_
  refine wp_skip ?_
  refine co_then ?_
  refine co_seq ?_
  refine co_seq ?_
  refine co_reg ?_
  refine pk0 (v := .int .i64 0) h15 rfl fun a19 h19 => ?_; clear h15
  refine pl_nil ?_
  refine co_then ?_
  refine wp_block ?_
  have h20 : Slots 54 [(0, pt xo 0), (1, .int .i64 n), (5, .string (⟨#[]⟩)), (8, .int .i64 0)] _ := h19.sub ⟨rfl, rfl, rfl, rfl, trivial⟩; clear h19
  refine co_loop (fun mm a x => ∃ (i : Nat), Slots 54 [(0, pt xo 0), (1, .int .i64 n), (5, .string (catR (safR F n) (P.take i) n)), (8, .int .i64 ((i : Nat) : Int))] a ∧ mm = P.length - i ∧ (i ≤ P.length) ∧ Below w.heap.size w x ∧ Blk x xo 119 #[fv, pv, .int .i64 ser, .int .i64 boot]) (P.length - 0) ?_ ?_
  have hk21 := hX.below hb8
  · exact ⟨0, h20.sub ⟨rfl, rfl, (slot_eq rfl (congrArg Value.string (by first | exact safR_y (by assumption) (by assumption) | exact safR_n (by assumption) | exact catR_y (by assumption) (by omega) | exact catR_n (by assumption) (by omega)))), (slot_eq rfl (congrArg (Value.int .i64) (by first | rfl | omega))), trivial⟩, rfl, by omega, hB17, hk21⟩
  · rintro k22 a23 w24 ⟨i, h23, rfl, hi25, hB26, hk27⟩
    have hz28 := hB26.size
    have hl29 := hk27.lt
    have hcz1 := hcz i; have hcz2 := hcz (i + 1)
    refine co_seq ?_
    refine co_seq ?_
    refine co_reg ?_
    refine pk0 (v := .int .i64 ((i : Nat) : Int)) h23 rfl fun a30 h30 => ?_; clear h23
    refine pk0 (v := pt xo 0) h30 rfl fun a31 h31 => ?_; clear h30
    refine pk0 (v := pt xo 0) h31 rfl fun a32 h32 => ?_; clear h31
    refine pk0 (v := pt xo 1) h32 rfl fun a33 h33 => ?_; clear h32
    refine pk (v := pv) h33 rfl (rn_load1 rfl rfl Try.isAgg117 (hk27.cell rfl)) fun a34 h34 => ?_; clear h33
    refine pk (v := .int .i64 ((P.length : Nat) : Int)) h34 rfl (rn_len rfl rfl Try.underlying117 (hs2.below hB26)) fun a35 h35 => ?_; clear h34
    refine pk0 (v := .bool (decide (((i : Nat) : Int) < ((P.length : Nat) : Int)))) h35 rfl fun a36 h36 => ?_; clear h35
    refine pl_nil ?_
    refine co_then ?_
    cases hc37 : (decide (((i : Nat) : Int) < ((P.length : Nat) : Int)))
    ·
     rw [hc37] at h36
     have hp38 : ¬ (((i : Nat) : Int) < ((P.length : Nat) : Int)) := of_decide_eq_false hc37
     clear hc37
     refine co_false h36 rfl ?_
     refine wp_exit ?_
     refine co_thenX ?_
     refine co_thenX ?_
     refine co_blockX ?_
     refine co_then ?_
     refine co_seq ?_
     refine co_reg ?_
     refine pk0 (v := .string (catR (safR F n) (P.take i) n)) h36 rfl fun a39 h39 => ?_; clear h36
     refine pk0 (v := .string (catR (safR F n) (P.take i) n)) h39 rfl fun a40 h40 => ?_; clear h39
     refine pl_nil ?_
     refine co_then ?_
     refine wp_ret ?_
     refine co_ret1 h40 rfl rfl ?_
     exact ⟨by rw [List.take_of_length_le (by omega)], hB26⟩
    ·
     rw [hc37] at h36
     have hp41 : ((i : Nat) : Int) < ((P.length : Nat) : Int) := of_decide_eq_true hc37
     clear hc37
     refine co_true h36 rfl ?_
     refine wp_skip ?_
     refine co_then ?_
     refine co_seq ?_
     refine wp_block ?_
     refine co_seq ?_
     refine co_reg ?_
     refine pk0 (v := pt xo 0) h36 rfl fun a42 h42 => ?_; clear h36
     refine pk0 (v := pt xo 0) h42 rfl fun a43 h43 => ?_; clear h42
     refine pk0 (v := pt xo 1) h43 rfl fun a44 h44 => ?_; clear h43
     refine pk (v := pv) h44 rfl (rn_load1 rfl rfl Try.isAgg117 (hk27.cell rfl)) fun a45 h45 => ?_; clear h44
     refine pk0 (v := .int .i64 ((i : Nat) : Int)) h45 rfl fun a46 h46 => ?_; clear h45
     obtain ⟨y47, hy47⟩ : ∃ z, P[i]? = some z := ⟨_, List.getElem?_eq_getElem (by first | omega | (simp; done) | (simp; omega))⟩
     have oky47 := hpz _ (List.mem_of_getElem? hy47)
     have k48 : y47.2.size ≤ 1000000000 := oky47
     refine pk (v := pt (blkOf pv) (offOf pv + i * 2)) h46 rfl (rn_index rfl rfl rfl Try.underlying117 Try.sizeOf127 (hs2.below hB26) (by omega) (by first | omega | (simp; done) | (simp; omega))) fun a49 h49 => ?_; clear h46
     refine pk0 (v := pt (blkOf pv) (offOf pv + i * 2)) h49 rfl fun a50 h50 => ?_; clear h49
     refine pk (v := .int .i64 y47.1) h50 rfl (rn_load1 rfl rfl Try.isAgg3 ((sl_at (hs2.below hB26) hy47) 0 _ rfl)) fun a51 h51 => ?_; clear h50
     refine pk0 (v := .int .i64 n) h51 rfl fun a52 h52 => ?_; clear h51
     refine pk0 (v := .bool (y47.1 == n)) h52 rfl fun a53 h53 => ?_; clear h52
     refine pl_nil ?_
     refine co_then ?_
     cases hc54 : (y47.1 == n)
     ·
      rw [hc54] at h53
      have hp55 : ¬ (y47.1 = n) := by first | simpa using hc54 | simpa [and_assoc] using hc54
      clear hc54
      refine co_false h53 rfl ?_
      refine wp_skip ?_
      refine co_blockN ?_
      refine co_then ?_
      refine co_reg ?_
      refine pk0 (v := .int .i64 ((i : Nat) : Int)) h53 rfl fun a56 h56 => ?_; clear h53
      refine pk (v := .int .i64 ((i + 1 : Nat) : Int)) h56 rfl (rn_arith' rfl rfl rfl rfl rfl rfl (IntWalk.i64_in _ (by omega)) (by omega)) fun a57 h57 => ?_; clear h56
      refine pk0 (v := .int .i64 ((i + 1 : Nat) : Int)) h57 rfl fun a58 h58 => ?_; clear h57
      refine pl_nil ?_
      refine co_then ?_
      refine ⟨(P.length - (i + 1)), by omega, ?_⟩
      exact ⟨i + 1, h58.sub ⟨rfl, rfl, (slot_eq rfl (congrArg Value.string (by first | exact safR_y (by assumption) (by assumption) | exact safR_n (by assumption) | exact catR_y (by assumption) (by omega) | exact catR_n (by assumption) (by omega)))), rfl, trivial⟩, rfl, by omega, hB26, hk27⟩
     ·
      rw [hc54] at h53
      have hp59 : y47.1 = n := by first | simpa using hc54 | simpa [and_assoc] using hc54
      clear hc54
      refine co_true h53 rfl ?_
      refine co_reg ?_
      refine pk0 (v := .string (catR (safR F n) (P.take i) n)) h53 rfl fun a60 h60 => ?_; clear h53
      refine pk0 (v := pt xo 0) h60 rfl fun a61 h61 => ?_; clear h60
      refine pk0 (v := pt xo 0) h61 rfl fun a62 h62 => ?_; clear h61
      refine pk0 (v := pt xo 1) h62 rfl fun a63 h63 => ?_; clear h62
      refine pk (v := pv) h63 rfl (rn_load1 rfl rfl Try.isAgg117 (hk27.cell rfl)) fun a64 h64 => ?_; clear h63
      refine pk0 (v := .int .i64 ((i : Nat) : Int)) h64 rfl fun a65 h65 => ?_; clear h64
      refine pk (v := pt (blkOf pv) (offOf pv + i * 2)) h65 rfl (rn_index rfl rfl rfl Try.underlying117 Try.sizeOf127 (hs2.below hB26) (by omega) (by first | omega | (simp; done) | (simp; omega))) fun a66 h66 => ?_; clear h65
      refine pk0 (v := pt (blkOf pv) (offOf pv + i * 2 + 1)) h66 rfl fun a67 h67 => ?_; clear h66
      refine pk (v := .string y47.2) h67 rfl (rn_load1 rfl rfl Try.isAgg9 ((sl_at (hs2.below hB26) hy47) 1 _ rfl)) fun a68 h68 => ?_; clear h67
      refine pk (v := .string ((catR (safR F n) (P.take i) n) ++ y47.2)) h68 rfl (rn_addStr rfl rfl rfl (by omega)) fun a69 h69 => ?_; clear h68
      refine pk0 (v := .string ((catR (safR F n) (P.take i) n) ++ y47.2)) h69 rfl fun a70 h70 => ?_; clear h69
      refine pl_nil ?_
      refine co_blockN ?_
      refine co_then ?_
      refine co_reg ?_
      refine pk0 (v := .int .i64 ((i : Nat) : Int)) h70 rfl fun a71 h71 => ?_; clear h70
      refine pk (v := .int .i64 ((i + 1 : Nat) : Int)) h71 rfl (rn_arith' rfl rfl rfl rfl rfl rfl (IntWalk.i64_in _ (by omega)) (by omega)) fun a72 h72 => ?_; clear h71
      refine pk0 (v := .int .i64 ((i + 1 : Nat) : Int)) h72 rfl fun a73 h73 => ?_; clear h72
      refine pl_nil ?_
      refine co_then ?_
      refine ⟨(P.length - (i + 1)), by omega, ?_⟩
      exact ⟨i + 1, h73.sub ⟨rfl, rfl, (slot_eq rfl (congrArg Value.string (by first | exact safR_y (by assumption) (by assumption) | exact safR_n (by assumption) | exact catR_y (by assumption) (by omega) | exact catR_n (by assumption) (by omega)))), rfl, trivial⟩, rfl, by omega, hB26, hk27⟩
 ·
  rw [hc16] at h15
  have hp74 : fIx F n < F.length ∧ (F.getD (fIx F n) (0, ⟨#[]⟩)).1 = n := of_decide_eq_true hc16
  clear hc16
  refine co_true h15 rfl ?_
  refine co_reg ?_
  refine pk0 (v := pt xo 0) h15 rfl fun a75 h75 => ?_; clear h15
  refine pk0 (v := pt xo 0) h75 rfl fun a76 h76 => ?_; clear h75
  refine pk0 (v := pt xo 0) h76 rfl fun a77 h77 => ?_; clear h76
  have hk78 := hX.below hb8
  refine pk (v := fv) h77 rfl (rn_load1 rfl rfl Try.isAgg116 (hk78.cell rfl)) fun a79 h79 => ?_; clear h77
  refine pk0 (v := .int .i64 ((fIx F n : Nat) : Int)) h79 rfl fun a80 h80 => ?_; clear h79
  obtain ⟨y81, hy81⟩ : ∃ z, F[fIx F n]? = some z := ⟨_, List.getElem?_eq_getElem (by first | omega | (simp; done) | (simp; omega))⟩
  refine pk (v := pt (blkOf fv) (offOf fv + (fIx F n) * 2)) h80 rfl (rn_index rfl rfl rfl Try.underlying116 Try.sizeOf131 (hs.below hB17) (by omega) (by first | omega | (simp; done) | (simp; omega))) fun a82 h82 => ?_; clear h80
  refine pk0 (v := pt (blkOf fv) (offOf fv + (fIx F n) * 2 + 1)) h82 rfl fun a83 h83 => ?_; clear h82
  refine pk (v := .string y81.2) h83 rfl (rn_load1 rfl rfl Try.isAgg9 ((sl_at (hs.below hB17) hy81) 1 _ rfl)) fun a84 h84 => ?_; clear h83
  refine pk0 (v := .string y81.2) h84 rfl fun a85 h85 => ?_; clear h84
  refine pl_nil ?_
  refine co_then ?_
  refine co_seq ?_
  refine co_seq ?_
  refine co_reg ?_
  refine pk0 (v := .int .i64 0) h85 rfl fun a86 h86 => ?_; clear h85
  refine pl_nil ?_
  refine co_then ?_
  refine wp_block ?_
  have h87 : Slots 54 [(0, pt xo 0), (1, .int .i64 n), (5, .string y81.2), (8, .int .i64 0)] _ := h86.sub ⟨rfl, rfl, rfl, rfl, trivial⟩; clear h86
  refine co_loop (fun mm a x => ∃ (i : Nat), Slots 54 [(0, pt xo 0), (1, .int .i64 n), (5, .string (catR (safR F n) (P.take i) n)), (8, .int .i64 ((i : Nat) : Int))] a ∧ mm = P.length - i ∧ (i ≤ P.length) ∧ Below w.heap.size w x ∧ Blk x xo 119 #[fv, pv, .int .i64 ser, .int .i64 boot]) (P.length - 0) ?_ ?_
  · exact ⟨0, h87.sub ⟨rfl, rfl, (slot_eq rfl (congrArg Value.string (by first | exact safR_y (by assumption) (by assumption) | exact safR_n (by assumption) | exact catR_y (by assumption) (by omega) | exact catR_n (by assumption) (by omega)))), (slot_eq rfl (congrArg (Value.int .i64) (by first | rfl | omega))), trivial⟩, rfl, by omega, hB17, hk78⟩
  · rintro k88 a89 w90 ⟨i, h89, rfl, hi91, hB92, hk93⟩
    have hz94 := hB92.size
    have hl95 := hk93.lt
    have hcz1 := hcz i; have hcz2 := hcz (i + 1)
    refine co_seq ?_
    refine co_seq ?_
    refine co_reg ?_
    refine pk0 (v := .int .i64 ((i : Nat) : Int)) h89 rfl fun a96 h96 => ?_; clear h89
    refine pk0 (v := pt xo 0) h96 rfl fun a97 h97 => ?_; clear h96
    refine pk0 (v := pt xo 0) h97 rfl fun a98 h98 => ?_; clear h97
    refine pk0 (v := pt xo 1) h98 rfl fun a99 h99 => ?_; clear h98
    refine pk (v := pv) h99 rfl (rn_load1 rfl rfl Try.isAgg117 (hk93.cell rfl)) fun a100 h100 => ?_; clear h99
    refine pk (v := .int .i64 ((P.length : Nat) : Int)) h100 rfl (rn_len rfl rfl Try.underlying117 (hs2.below hB92)) fun a101 h101 => ?_; clear h100
    refine pk0 (v := .bool (decide (((i : Nat) : Int) < ((P.length : Nat) : Int)))) h101 rfl fun a102 h102 => ?_; clear h101
    refine pl_nil ?_
    refine co_then ?_
    cases hc103 : (decide (((i : Nat) : Int) < ((P.length : Nat) : Int)))
    ·
     rw [hc103] at h102
     have hp104 : ¬ (((i : Nat) : Int) < ((P.length : Nat) : Int)) := of_decide_eq_false hc103
     clear hc103
     refine co_false h102 rfl ?_
     refine wp_exit ?_
     refine co_thenX ?_
     refine co_thenX ?_
     refine co_blockX ?_
     refine co_then ?_
     refine co_seq ?_
     refine co_reg ?_
     refine pk0 (v := .string (catR (safR F n) (P.take i) n)) h102 rfl fun a105 h105 => ?_; clear h102
     refine pk0 (v := .string (catR (safR F n) (P.take i) n)) h105 rfl fun a106 h106 => ?_; clear h105
     refine pl_nil ?_
     refine co_then ?_
     refine wp_ret ?_
     refine co_ret1 h106 rfl rfl ?_
     exact ⟨by rw [List.take_of_length_le (by omega)], hB92⟩
    ·
     rw [hc103] at h102
     have hp107 : ((i : Nat) : Int) < ((P.length : Nat) : Int) := of_decide_eq_true hc103
     clear hc103
     refine co_true h102 rfl ?_
     refine wp_skip ?_
     refine co_then ?_
     refine co_seq ?_
     refine wp_block ?_
     refine co_seq ?_
     refine co_reg ?_
     refine pk0 (v := pt xo 0) h102 rfl fun a108 h108 => ?_; clear h102
     refine pk0 (v := pt xo 0) h108 rfl fun a109 h109 => ?_; clear h108
     refine pk0 (v := pt xo 1) h109 rfl fun a110 h110 => ?_; clear h109
     refine pk (v := pv) h110 rfl (rn_load1 rfl rfl Try.isAgg117 (hk93.cell rfl)) fun a111 h111 => ?_; clear h110
     refine pk0 (v := .int .i64 ((i : Nat) : Int)) h111 rfl fun a112 h112 => ?_; clear h111
     obtain ⟨y113, hy113⟩ : ∃ z, P[i]? = some z := ⟨_, List.getElem?_eq_getElem (by first | omega | (simp; done) | (simp; omega))⟩
     have oky113 := hpz _ (List.mem_of_getElem? hy113)
     have k114 : y113.2.size ≤ 1000000000 := oky113
     refine pk (v := pt (blkOf pv) (offOf pv + i * 2)) h112 rfl (rn_index rfl rfl rfl Try.underlying117 Try.sizeOf127 (hs2.below hB92) (by omega) (by first | omega | (simp; done) | (simp; omega))) fun a115 h115 => ?_; clear h112
     refine pk0 (v := pt (blkOf pv) (offOf pv + i * 2)) h115 rfl fun a116 h116 => ?_; clear h115
     refine pk (v := .int .i64 y113.1) h116 rfl (rn_load1 rfl rfl Try.isAgg3 ((sl_at (hs2.below hB92) hy113) 0 _ rfl)) fun a117 h117 => ?_; clear h116
     refine pk0 (v := .int .i64 n) h117 rfl fun a118 h118 => ?_; clear h117
     refine pk0 (v := .bool (y113.1 == n)) h118 rfl fun a119 h119 => ?_; clear h118
     refine pl_nil ?_
     refine co_then ?_
     cases hc120 : (y113.1 == n)
     ·
      rw [hc120] at h119
      have hp121 : ¬ (y113.1 = n) := by first | simpa using hc120 | simpa [and_assoc] using hc120
      clear hc120
      refine co_false h119 rfl ?_
      refine wp_skip ?_
      refine co_blockN ?_
      refine co_then ?_
      refine co_reg ?_
      refine pk0 (v := .int .i64 ((i : Nat) : Int)) h119 rfl fun a122 h122 => ?_; clear h119
      refine pk (v := .int .i64 ((i + 1 : Nat) : Int)) h122 rfl (rn_arith' rfl rfl rfl rfl rfl rfl (IntWalk.i64_in _ (by omega)) (by omega)) fun a123 h123 => ?_; clear h122
      refine pk0 (v := .int .i64 ((i + 1 : Nat) : Int)) h123 rfl fun a124 h124 => ?_; clear h123
      refine pl_nil ?_
      refine co_then ?_
      refine ⟨(P.length - (i + 1)), by omega, ?_⟩
      exact ⟨i + 1, h124.sub ⟨rfl, rfl, (slot_eq rfl (congrArg Value.string (by first | exact safR_y (by assumption) (by assumption) | exact safR_n (by assumption) | exact catR_y (by assumption) (by omega) | exact catR_n (by assumption) (by omega)))), rfl, trivial⟩, rfl, by omega, hB92, hk93⟩
     ·
      rw [hc120] at h119
      have hp125 : y113.1 = n := by first | simpa using hc120 | simpa [and_assoc] using hc120
      clear hc120
      refine co_true h119 rfl ?_
      refine co_reg ?_
      refine pk0 (v := .string (catR (safR F n) (P.take i) n)) h119 rfl fun a126 h126 => ?_; clear h119
      refine pk0 (v := pt xo 0) h126 rfl fun a127 h127 => ?_; clear h126
      refine pk0 (v := pt xo 0) h127 rfl fun a128 h128 => ?_; clear h127
      refine pk0 (v := pt xo 1) h128 rfl fun a129 h129 => ?_; clear h128
      refine pk (v := pv) h129 rfl (rn_load1 rfl rfl Try.isAgg117 (hk93.cell rfl)) fun a130 h130 => ?_; clear h129
      refine pk0 (v := .int .i64 ((i : Nat) : Int)) h130 rfl fun a131 h131 => ?_; clear h130
      refine pk (v := pt (blkOf pv) (offOf pv + i * 2)) h131 rfl (rn_index rfl rfl rfl Try.underlying117 Try.sizeOf127 (hs2.below hB92) (by omega) (by first | omega | (simp; done) | (simp; omega))) fun a132 h132 => ?_; clear h131
      refine pk0 (v := pt (blkOf pv) (offOf pv + i * 2 + 1)) h132 rfl fun a133 h133 => ?_; clear h132
      refine pk (v := .string y113.2) h133 rfl (rn_load1 rfl rfl Try.isAgg9 ((sl_at (hs2.below hB92) hy113) 1 _ rfl)) fun a134 h134 => ?_; clear h133
      refine pk (v := .string ((catR (safR F n) (P.take i) n) ++ y113.2)) h134 rfl (rn_addStr rfl rfl rfl (by omega)) fun a135 h135 => ?_; clear h134
      refine pk0 (v := .string ((catR (safR F n) (P.take i) n) ++ y113.2)) h135 rfl fun a136 h136 => ?_; clear h135
      refine pl_nil ?_
      refine co_blockN ?_
      refine co_then ?_
      refine co_reg ?_
      refine pk0 (v := .int .i64 ((i : Nat) : Int)) h136 rfl fun a137 h137 => ?_; clear h136
      refine pk (v := .int .i64 ((i + 1 : Nat) : Int)) h137 rfl (rn_arith' rfl rfl rfl rfl rfl rfl (IntWalk.i64_in _ (by omega)) (by omega)) fun a138 h138 => ?_; clear h137
      refine pk0 (v := .int .i64 ((i + 1 : Nat) : Int)) h138 rfl fun a139 h139 => ?_; clear h138
      refine pl_nil ?_
      refine co_then ?_
      refine ⟨(P.length - (i + 1)), by omega, ?_⟩
      exact ⟨i + 1, h139.sub ⟨rfl, rfl, (slot_eq rfl (congrArg Value.string (by first | exact safR_y (by assumption) (by assumption) | exact safR_n (by assumption) | exact catR_y (by assumption) (by omega) | exact catR_n (by assumption) (by omega)))), rfl, trivial⟩, rfl, by omega, hB92, hk93⟩
end Go.Proofs.Ytcnahhobppnbbaa
