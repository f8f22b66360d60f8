/- Package ops: sorted. Conditions: a map of at most 1000000 entries. -/
import Derived.Test.YteioaaegooebpaaOpsF
namespace Go.Proofs.Yteioaaegooebpaa
open Go.RowKit Go.PlainAid
set_option linter.unusedVariables false

open Go.Sort Go.Shelf Go.Lib

theorem row_some {w : World} {B sz k : Nat} {T : TypeId} {v : Value} {xs : List Value} (h : w.ownsRow B T sz v k xs) (hk : k ≠ 0) : v ≠ .slice none 0 0 := by
  rcases h.2 with ⟨_, h0⟩ | ⟨g, cap, cur, rfl, _⟩
  · exact absurd h0 hk
  · simp

set_option maxRecDepth 100000 in
theorem sorted_V (B : Nat) (g : ByteArray → Option ValT) (c : Nat) (w : World) (hm : MapO strK valV w B g c) (hc : c ≤ 1000000) (hkey : ∀ k v, g k = some v → v.1 = k) :
    Calls Try.prog 50 #[.map (some B), .func (.func 51) #[] #[]] w fun e w' => ∃ (ys : List ValT) (u : Value), e = .returned (u) ∧ w'.ownsRow w.heap.size 90 2 u ys.length (ys.flatMap valE) ∧ SetG (fun y : ValT => y.1) g ys ∧ ys.length ≤ c ∧ Below w.heap.size w w' := by
  have hB0 := Below.refl w.heap.size w
  have hBl := hm.lt
  refine co_enter (n := 25) Try.func50 rfl rfl rfl [(0, .map (some B)), (1, .func (.func 51) #[] #[])] rfl (fun a h0 => ?_)
  refine co_seq ?_
  refine co_reg ?_
  refine pl_val (v := .slice none 0 0) h0 rfl rfl rfl (by kernel_rfl) (by kernel_rfl) (by kernel_rfl) (fun a1 h1 => ?_); clear h0
  refine pl_nil ?_
  refine co_then ?_
  refine co_seq ?_
  refine co_reg ?_
  refine pl_val (v := .map (some B)) h1 rfl rfl rfl (by kernel_rfl) (by kernel_rfl) (by kernel_rfl) (fun a2 h2 => ?_); clear h1
  refine pl_want h2 rfl rfl rfl (op_lenO (ts := #[]) rfl rfl Try.underlying89 hm (by kernel_rfl) rfl) ?_; clear h2
  rintro _ _ a3 ⟨k5, rfl, hk6, rfl⟩ h3
  refine pl_want h3 rfl rfl rfl (op_makeOwn (base := w.heap.size) (enc := valE) (k := k5) (by_ := 32) (z := .agg #[.string (⟨#[]⟩), .string (⟨#[]⟩)]) (size := 2) rfl rfl rfl Try.underlying91 (by kernel_rfl) (by omega) (by unfold maxLen; omega) (Nat.le_refl _)) ?_; clear h3
  rintro _ w8 a7 ⟨N9, rfl, hN10, hr11, hg12⟩ h7
  have hB13 := hb_new hB0 hg12
  have hz14 := hB13.size
  have hz15 := hg12.size
  have hM16 := hm.kept hg12 (by simp)
  refine pl_val (v := .slice (some ⟨N9, 0, none⟩) 0 k5) h7 rfl rfl rfl (by kernel_rfl) (by kernel_rfl) (by kernel_rfl) (fun a17 h17 => ?_); clear h7
  refine pl_nil ?_
  refine co_then ?_
  refine co_seq ?_
  refine co_seq ?_
  refine co_reg ?_
  refine pl_val (v := .map (some B)) h17 rfl rfl rfl (by kernel_rfl) (by kernel_rfl) (by kernel_rfl) (fun a18 h18 => ?_); clear h17
  refine pl_want h18 rfl rfl rfl (op_rangeO (⟨#[]⟩ : ByteArray) rfl rfl Try.underlying89 hM16) ?_; clear h18
  rintro _ w20 a19 ⟨r21, rfl, hN22, hz23, ⟨lt24, hI25, hfu26, hlc27⟩, hg28⟩ h19
  have ha29 := row_fresh hr11 hN22
  have hB30 := hb_new hB13 hg28
  have hz31 := hB30.size
  have hz32 := hg28.size
  have hM33 := hM16.kept hg28 (by simp)
  have hr34 := row_kept_new hr11 hg28
  have hl35 := hI25.lt
  refine pl_nil ?_
  refine co_then ?_
  refine wp_block ?_
  have h36 : Slots 25 [(0, .map (some B)), (1, .func (.func 51) #[] #[]), (4, .slice none 0 0), (5, .slice (some ⟨N9, 0, none⟩) 0 k5), (12, .pointer (some ⟨r21, 0, none⟩))] _ := h19.sub ⟨rfl, rfl, rfl, rfl, rfl, trivial⟩; clear h19
  refine co_loop (fun mm a x => ∃ (u : Value) (ss : List ValT) (left : List (ByteArray × ValT)) (cnt : Nat), Slots 25 [(0, .map (some B)), (1, .func (.func 51) #[] #[]), (4, .slice none 0 0), (5, u), (12, .pointer (some ⟨r21, 0, none⟩))] a ∧ mm = cnt ∧ (left.length = cnt) ∧ ((ss ++ left.map (·.2)).Perm (lt24.map (·.2))) ∧ (u ≠ .slice none 0 0) ∧ IterO strK valV x r21 B left ∧ x.ownsRow w.heap.size 90 2 u ss.length (ss.flatMap valE) ∧ Below w.heap.size w x) (lt24.length) ?_ ?_
  · exact ⟨(.slice (some ⟨N9, 0, none⟩) 0 k5), [], lt24, lt24.length, h36.sub ⟨rfl, rfl, rfl, rfl, rfl, trivial⟩, rfl, by first | rfl | (simp; done) | (simp; omega), by first | exact List.Perm.refl _ | exact hP', by first | (simp; done) | exact hnn', hI25, (row_eq hr34 (rfl)), hB30⟩
  · rintro k37 a38 w39 ⟨u, ss, left, cnt, h38, rfl, hi40, hi41, hi42, hf43, hf44, hB45⟩
    have hz46 := hB45.size
    have hl47 := hf43.lt
    have hP : (ss ++ left.map (·.2)).Perm (lt24.map (·.2)) := by assumption
    have hnn : u ≠ .slice none 0 0 := by assumption
    have hlq := hP.length_eq; simp only [List.length_append, List.length_map] at hlq
    refine co_seq ?_
    refine co_reg ?_
    refine pl_want h38 rfl rfl rfl (op_nextO rfl rfl hf43) ?_; clear h38
    rintro _ w49 a48 (⟨hnil58, rfl, rfl⟩ | ⟨p50, l51, l52, hleft53, rfl, hI54, hen55, hz56, hg57⟩) h48
    ·
      refine pl_val (v := .bool false) h48 rfl rfl rfl (by kernel_rfl) (by kernel_rfl) (by kernel_rfl) (fun a59 h59 => ?_); clear h48
      refine pl_nil ?_
      refine co_then ?_
      refine co_seq ?_
      refine co_false h59 rfl ?_
      refine wp_exit ?_
      refine co_thenX ?_
      refine co_thenX ?_
      refine co_blockX ?_
      refine co_then ?_
      refine co_seq ?_
      refine co_reg ?_
      refine pl_val (v := u) h59 rfl rfl rfl (by kernel_rfl) (by kernel_rfl) (by kernel_rfl) (fun a60 h60 => ?_); clear h59
      refine pl_val (v := .func (.func 51) #[] #[]) h60 rfl rfl rfl (by kernel_rfl) (by kernel_rfl) (by kernel_rfl) (fun a61 h61 => ?_); clear h60
      refine pl_want h61 rfl rfl rfl (op_call (args := #[u, .func (.func 51) #[] #[]]) (R := fun res xw => res = .tuple #[] ∧ ∃ l' : List ValT, l'.Perm ss ∧ SortedL (ltOf cfV) l' ∧ xw.ownsRow w.heap.size 90 2 u l'.length (l'.flatMap valE) ∧ w39.grownBy xw (Value.ownBlock u)) rfl rfl rfl (by kernel_rfl) (by kernel_rfl) (Try.call99 _ _) (sort_V u ss w39 hf44 hnn (by omega)) (by rintro e x ⟨rfl, h⟩; exact ⟨_, rfl, rfl, h⟩)) ?_; clear h61
      rintro _ w63 a62 ⟨rfl, ys64, hp65, hs66, hr67, hg68⟩ h62
      have hB69 := hb_row hB45 hf44 (by omega) hg68
      have hz70 := hB69.size
      have hz71 := hg68.size
      have hI72 := hf43.kept hg68 (hf43.row hf44).1 (hf43.row hf44).2
      have hle73 := hp65.length_eq
      refine pl_nil ?_
      refine co_then ?_
      refine co_seq ?_
      refine co_reg ?_
      refine pl_val (v := u) h62 rfl rfl rfl (by kernel_rfl) (by kernel_rfl) (by kernel_rfl) (fun a74 h74 => ?_); clear h62
      refine pl_val (v := u) h74 rfl rfl rfl (by kernel_rfl) (by kernel_rfl) (by kernel_rfl) (fun a75 h75 => ?_); clear h74
      refine pl_nil ?_
      refine co_then ?_
      refine wp_ret ?_
      refine co_ret1 h75 rfl rfl ?_
      rw [hnil58, List.map_nil, List.append_nil] at hP
      have hres := setG_of (key := fun y : ValT => y.1) lt_V hfu26 hkey hP hp65 hs66
      exact ⟨_, _, rfl, (row_lows hr67 (by omega)), hres, by omega, hB69⟩
    ·
      have hB76 := hb_at hB45 hg57 (by omega)
      have hz77 := hB76.size
      have hz78 := hg57.size
      have hr79 := row_kept_at hf44 hg57 ((hf43.row hf44).2)
      have hl80 := hI54.lt
      have hln81 : left.length = l51.length + l52.length + 1 := by rw [hleft53]; simp; omega
      refine pl_val (v := .bool true) h48 rfl rfl rfl (by kernel_rfl) (by kernel_rfl) (by kernel_rfl) (fun a82 h82 => ?_); clear h48
      refine pl_nil ?_
      refine co_then ?_
      refine co_seq ?_
      refine co_true h82 rfl ?_
      refine wp_skip ?_
      refine co_then ?_
      refine wp_block ?_
      refine co_seq ?_
      refine co_reg ?_
      refine pl_val (v := .tuple #[.string p50.1, .agg #[.string p50.2.1, .string p50.2.2]]) h82 rfl rfl rfl (by kernel_rfl) (by kernel_rfl) (rn_entry rfl rfl hen55) (fun a83 h83 => ?_); clear h82
      refine pl_val (v := .agg #[.string p50.2.1, .string p50.2.2]) h83 rfl rfl rfl (by kernel_rfl) (by kernel_rfl) (by kernel_rfl) (fun a84 h84 => ?_); clear h83
      refine pl_want h84 rfl rfl rfl (op_new (v := fun N => .pointer (some ⟨N, 0, none⟩)) (T := 90) (cs := #[.string (⟨#[]⟩), .string (⟨#[]⟩)]) (by kernel_rfl) (by kernel_rfl) (by kernel_rfl)) ?_; clear h84
      rintro _ w86 a85 ⟨N87, rfl, hN90, hz91, hk89, hg88⟩ h85
      have ha92 := row_fresh hr79 hN90
      have hB93 := hb_new hB76 hg88
      have hz94 := hB93.size
      have hz95 := hg88.size
      have hr96 := row_kept_new hr79 hg88
      have hI97 := hI54.kept hg88 (by simp) (by simp)
      try dsimp only at h85
      refine pl_doW h85 rfl rfl (op_storeN rfl rfl rfl (by kernel_rfl) (by kernel_rfl) hk89 rfl) ?_; clear h85
      rintro _ w99 a98 ⟨hk100, hz101, hg102⟩ h98
      have hk100' : Blk w99 N87 90 #[.string p50.2.1, .string p50.2.2] := hk100; clear hk100
      have hB103 := hb_at hB93 hg102 (by omega)
      have hz104 := hB103.size
      have hz105 := hg102.size
      have hr106 := row_kept_at hr96 hg102 (ha92)
      have hI107 := hI97.kept hg102 (by simp; omega) (by simp; omega)
      refine pl_nil ?_
      refine co_then ?_
      refine co_reg ?_
      refine pl_val (v := u) h98 rfl rfl rfl (by kernel_rfl) (by kernel_rfl) (by kernel_rfl) (fun a108 h108 => ?_); clear h98
      refine pl_val (v := .agg #[.string p50.2.1, .string p50.2.2]) h108 rfl rfl rfl (by kernel_rfl) (by kernel_rfl) (rn_loadN rfl rfl Try.underlying90 rfl (by kernel_rfl) hk100'.all) (fun a109 h109 => ?_); clear h108
      refine pl_want h109 rfl rfl rfl (op_new (v := fun N => .slice (some ⟨N, 0, none⟩) 1 1) (T := 90) (cs := #[.string p50.2.1, .string p50.2.2]) (by kernel_rfl) (by kernel_rfl) (by kernel_rfl)) ?_; clear h109
      rintro _ w111 a110 ⟨N112, rfl, hN115, hz116, hk114, hg113⟩ h110
      have ha117 := row_fresh hr106 hN115
      have hB118 := hb_new hB103 hg113
      have hz119 := hB118.size
      have hz120 := hg113.size
      have hr121 := row_kept_new hr106 hg113
      have hI122 := hI107.kept hg113 (by simp) (by simp)
      have hk123 := hk100'.kept hg113 (by simp)
      try dsimp only at h110
      refine pl_want h110 rfl rfl rfl (op_append rfl w.heap.size 90 (z := .agg #[.string (⟨#[]⟩), .string (⟨#[]⟩)]) (size := 2) (bytes := 32) Try.underlying91 (by kernel_rfl) rfl rfl rfl hr121 rfl hk114 rfl (by kernel_rfl) (by first | omega | (simp only [List.length_nil, List.length_append, List.length_cons, List.length_take, List.length_drop]; omega)) (by first | omega | (simp only [List.length_nil, List.length_append, List.length_cons, List.length_take, List.length_drop]; omega)) (by omega)) ?_; clear h110
      rintro v126 w125 a124 ⟨hr127, hg128⟩ h124
      have hr127' : w125.ownsRow w.heap.size 90 2 v126 ((ss ++ [(p50.2.1, p50.2.2)]).length) ((ss ++ [(p50.2.1, p50.2.2)]).flatMap valE) := row_push (y := (p50.2.1, p50.2.2)) hr127 rfl rfl; clear hr127
      have hB129 := hb_row hB118 hr121 (by omega) hg128
      have hz130 := hB129.size
      have hz131 := hg128.size
      have hI132 := hI122.kept hg128 (hI122.row hr121).1 (hI122.row hr121).2
      have hk133 := hk123.kept hg128 (ha92)
      have hk134 := hk114.kept hg128 (ha117)
      refine pl_val (v := v126) h124 rfl rfl rfl (by kernel_rfl) (by kernel_rfl) (by kernel_rfl) (fun a135 h135 => ?_); clear h124
      refine pl_nil ?_
      refine co_blockN ?_
      refine co_then ?_
      refine ⟨(l51.length + l52.length), by omega, ?_⟩
      rw [hleft53] at hP
      have hP' := perm_step hP
      have hnn' := row_some hr127' (by simp)
      exact ⟨v126, ss ++ [(p50.2.1, p50.2.2)], l51 ++ l52, l51.length + l52.length, h135.sub ⟨rfl, rfl, rfl, rfl, rfl, trivial⟩, rfl, by first | rfl | (simp; done) | (simp; omega), by first | exact List.Perm.refl _ | exact hP', by first | (simp; done) | exact hnn', hI132, (row_eq hr127' (rfl)), hB129⟩
set_option maxRecDepth 100000 in
theorem sorted_O (B : Nat) (g : ByteArray → Option OpT) (c : Nat) (w : World) (hm : MapO strK opV w B g c) (hc : c ≤ 1000000) (hkey : ∀ k v, g k = some v → v.1 = k) :
    Calls Try.prog 52 #[.map (some B), .func (.func 53) #[] #[]] w fun e w' => ∃ (ys : List OpT) (u : Value), e = .returned (u) ∧ w'.ownsRow w.heap.size 96 3 u ys.length (ys.flatMap opE) ∧ SetG (fun y : OpT => y.1) g ys ∧ ys.length ≤ c ∧ Below w.heap.size w w' := by
  have hB0 := Below.refl w.heap.size w
  have hBl := hm.lt
  refine co_enter (n := 25) Try.func52 rfl rfl rfl [(0, .map (some B)), (1, .func (.func 53) #[] #[])] rfl (fun a h0 => ?_)
  refine co_seq ?_
  refine co_reg ?_
  refine pl_val (v := .slice none 0 0) h0 rfl rfl rfl (by kernel_rfl) (by kernel_rfl) (by kernel_rfl) (fun a1 h1 => ?_); clear h0
  refine pl_nil ?_
  refine co_then ?_
  refine co_seq ?_
  refine co_reg ?_
  refine pl_val (v := .map (some B)) h1 rfl rfl rfl (by kernel_rfl) (by kernel_rfl) (by kernel_rfl) (fun a2 h2 => ?_); clear h1
  refine pl_want h2 rfl rfl rfl (op_lenO (ts := #[]) rfl rfl Try.underlying95 hm (by kernel_rfl) rfl) ?_; clear h2
  rintro _ _ a3 ⟨k5, rfl, hk6, rfl⟩ h3
  refine pl_want h3 rfl rfl rfl (op_makeOwn (base := w.heap.size) (enc := opE) (k := k5) (by_ := 40) (z := .agg #[.string (⟨#[]⟩), .string (⟨#[]⟩), .bool false]) (size := 3) rfl rfl rfl Try.underlying97 (by kernel_rfl) (by omega) (by unfold maxLen; omega) (Nat.le_refl _)) ?_; clear h3
  rintro _ w8 a7 ⟨N9, rfl, hN10, hr11, hg12⟩ h7
  have hB13 := hb_new hB0 hg12
  have hz14 := hB13.size
  have hz15 := hg12.size
  have hM16 := hm.kept hg12 (by simp)
  refine pl_val (v := .slice (some ⟨N9, 0, none⟩) 0 k5) h7 rfl rfl rfl (by kernel_rfl) (by kernel_rfl) (by kernel_rfl) (fun a17 h17 => ?_); clear h7
  refine pl_nil ?_
  refine co_then ?_
  refine co_seq ?_
  refine co_seq ?_
  refine co_reg ?_
  refine pl_val (v := .map (some B)) h17 rfl rfl rfl (by kernel_rfl) (by kernel_rfl) (by kernel_rfl) (fun a18 h18 => ?_); clear h17
  refine pl_want h18 rfl rfl rfl (op_rangeO (⟨#[]⟩ : ByteArray) rfl rfl Try.underlying95 hM16) ?_; clear h18
  rintro _ w20 a19 ⟨r21, rfl, hN22, hz23, ⟨lt24, hI25, hfu26, hlc27⟩, hg28⟩ h19
  have ha29 := row_fresh hr11 hN22
  have hB30 := hb_new hB13 hg28
  have hz31 := hB30.size
  have hz32 := hg28.size
  have hM33 := hM16.kept hg28 (by simp)
  have hr34 := row_kept_new hr11 hg28
  have hl35 := hI25.lt
  refine pl_nil ?_
  refine co_then ?_
  refine wp_block ?_
  have h36 : Slots 25 [(0, .map (some B)), (1, .func (.func 53) #[] #[]), (4, .slice none 0 0), (5, .slice (some ⟨N9, 0, none⟩) 0 k5), (12, .pointer (some ⟨r21, 0, none⟩))] _ := h19.sub ⟨rfl, rfl, rfl, rfl, rfl, trivial⟩; clear h19
  refine co_loop (fun mm a x => ∃ (u : Value) (ss : List OpT) (left : List (ByteArray × OpT)) (cnt : Nat), Slots 25 [(0, .map (some B)), (1, .func (.func 53) #[] #[]), (4, .slice none 0 0), (5, u), (12, .pointer (some ⟨r21, 0, none⟩))] a ∧ mm = cnt ∧ (left.length = cnt) ∧ ((ss ++ left.map (·.2)).Perm (lt24.map (·.2))) ∧ (u ≠ .slice none 0 0) ∧ IterO strK opV x r21 B left ∧ x.ownsRow w.heap.size 96 3 u ss.length (ss.flatMap opE) ∧ Below w.heap.size w x) (lt24.length) ?_ ?_
  · exact ⟨(.slice (some ⟨N9, 0, none⟩) 0 k5), [], lt24, lt24.length, h36.sub ⟨rfl, rfl, rfl, rfl, rfl, trivial⟩, rfl, by first | rfl | (simp; done) | (simp; omega), by first | exact List.Perm.refl _ | exact hP', by first | (simp; done) | exact hnn', hI25, (row_eq hr34 (rfl)), hB30⟩
  · rintro k37 a38 w39 ⟨u, ss, left, cnt, h38, rfl, hi40, hi41, hi42, hf43, hf44, hB45⟩
    have hz46 := hB45.size
    have hl47 := hf43.lt
    have hP : (ss ++ left.map (·.2)).Perm (lt24.map (·.2)) := by assumption
    have hnn : u ≠ .slice none 0 0 := by assumption
    have hlq := hP.length_eq; simp only [List.length_append, List.length_map] at hlq
    refine co_seq ?_
    refine co_reg ?_
    refine pl_want h38 rfl rfl rfl (op_nextO rfl rfl hf43) ?_; clear h38
    rintro _ w49 a48 (⟨hnil58, rfl, rfl⟩ | ⟨p50, l51, l52, hleft53, rfl, hI54, hen55, hz56, hg57⟩) h48
    ·
      refine pl_val (v := .bool false) h48 rfl rfl rfl (by kernel_rfl) (by kernel_rfl) (by kernel_rfl) (fun a59 h59 => ?_); clear h48
      refine pl_nil ?_
      refine co_then ?_
      refine co_seq ?_
      refine co_false h59 rfl ?_
      refine wp_exit ?_
      refine co_thenX ?_
      refine co_thenX ?_
      refine co_blockX ?_
      refine co_then ?_
      refine co_seq ?_
      refine co_reg ?_
      refine pl_val (v := u) h59 rfl rfl rfl (by kernel_rfl) (by kernel_rfl) (by kernel_rfl) (fun a60 h60 => ?_); clear h59
      refine pl_val (v := .func (.func 53) #[] #[]) h60 rfl rfl rfl (by kernel_rfl) (by kernel_rfl) (by kernel_rfl) (fun a61 h61 => ?_); clear h60
      refine pl_want h61 rfl rfl rfl (op_call (args := #[u, .func (.func 53) #[] #[]]) (R := fun res xw => res = .tuple #[] ∧ ∃ l' : List OpT, l'.Perm ss ∧ SortedL (ltOf cfO) l' ∧ xw.ownsRow w.heap.size 96 3 u l'.length (l'.flatMap opE) ∧ w39.grownBy xw (Value.ownBlock u)) rfl rfl rfl (by kernel_rfl) (by kernel_rfl) (Try.call101 _ _) (sort_O u ss w39 hf44 hnn (by omega)) (by rintro e x ⟨rfl, h⟩; exact ⟨_, rfl, rfl, h⟩)) ?_; clear h61
      rintro _ w63 a62 ⟨rfl, ys64, hp65, hs66, hr67, hg68⟩ h62
      have hB69 := hb_row hB45 hf44 (by omega) hg68
      have hz70 := hB69.size
      have hz71 := hg68.size
      have hI72 := hf43.kept hg68 (hf43.row hf44).1 (hf43.row hf44).2
      have hle73 := hp65.length_eq
      refine pl_nil ?_
      refine co_then ?_
      refine co_seq ?_
      refine co_reg ?_
      refine pl_val (v := u) h62 rfl rfl rfl (by kernel_rfl) (by kernel_rfl) (by kernel_rfl) (fun a74 h74 => ?_); clear h62
      refine pl_val (v := u) h74 rfl rfl rfl (by kernel_rfl) (by kernel_rfl) (by kernel_rfl) (fun a75 h75 => ?_); clear h74
      refine pl_nil ?_
      refine co_then ?_
      refine wp_ret ?_
      refine co_ret1 h75 rfl rfl ?_
      rw [hnil58, List.map_nil, List.append_nil] at hP
      have hres := setG_of (key := fun y : OpT => y.1) lt_O hfu26 hkey hP hp65 hs66
      exact ⟨_, _, rfl, (row_lows hr67 (by omega)), hres, by omega, hB69⟩
    ·
      have hB76 := hb_at hB45 hg57 (by omega)
      have hz77 := hB76.size
      have hz78 := hg57.size
      have hr79 := row_kept_at hf44 hg57 ((hf43.row hf44).2)
      have hl80 := hI54.lt
      have hln81 : left.length = l51.length + l52.length + 1 := by rw [hleft53]; simp; omega
      refine pl_val (v := .bool true) h48 rfl rfl rfl (by kernel_rfl) (by kernel_rfl) (by kernel_rfl) (fun a82 h82 => ?_); clear h48
      refine pl_nil ?_
      refine co_then ?_
      refine co_seq ?_
      refine co_true h82 rfl ?_
      refine wp_skip ?_
      refine co_then ?_
      refine wp_block ?_
      refine co_seq ?_
      refine co_reg ?_
      refine pl_val (v := .tuple #[.string p50.1, .agg #[.string p50.2.1, .string p50.2.2.1, .bool p50.2.2.2]]) h82 rfl rfl rfl (by kernel_rfl) (by kernel_rfl) (rn_entry rfl rfl hen55) (fun a83 h83 => ?_); clear h82
      refine pl_val (v := .agg #[.string p50.2.1, .string p50.2.2.1, .bool p50.2.2.2]) h83 rfl rfl rfl (by kernel_rfl) (by kernel_rfl) (by kernel_rfl) (fun a84 h84 => ?_); clear h83
      refine pl_want h84 rfl rfl rfl (op_new (v := fun N => .pointer (some ⟨N, 0, none⟩)) (T := 96) (cs := #[.string (⟨#[]⟩), .string (⟨#[]⟩), .bool false]) (by kernel_rfl) (by kernel_rfl) (by kernel_rfl)) ?_; clear h84
      rintro _ w86 a85 ⟨N87, rfl, hN90, hz91, hk89, hg88⟩ h85
      have ha92 := row_fresh hr79 hN90
      have hB93 := hb_new hB76 hg88
      have hz94 := hB93.size
      have hz95 := hg88.size
      have hr96 := row_kept_new hr79 hg88
      have hI97 := hI54.kept hg88 (by simp) (by simp)
      try dsimp only at h85
      refine pl_doW h85 rfl rfl (op_storeN rfl rfl rfl (by kernel_rfl) (by kernel_rfl) hk89 rfl) ?_; clear h85
      rintro _ w99 a98 ⟨hk100, hz101, hg102⟩ h98
      have hk100' : Blk w99 N87 96 #[.string p50.2.1, .string p50.2.2.1, .bool p50.2.2.2] := hk100; clear hk100
      have hB103 := hb_at hB93 hg102 (by omega)
      have hz104 := hB103.size
      have hz105 := hg102.size
      have hr106 := row_kept_at hr96 hg102 (ha92)
      have hI107 := hI97.kept hg102 (by simp; omega) (by simp; omega)
      refine pl_nil ?_
      refine co_then ?_
      refine co_reg ?_
      refine pl_val (v := u) h98 rfl rfl rfl (by kernel_rfl) (by kernel_rfl) (by kernel_rfl) (fun a108 h108 => ?_); clear h98
      refine pl_val (v := .agg #[.string p50.2.1, .string p50.2.2.1, .bool p50.2.2.2]) h108 rfl rfl rfl (by kernel_rfl) (by kernel_rfl) (rn_loadN rfl rfl Try.underlying96 rfl (by kernel_rfl) hk100'.all) (fun a109 h109 => ?_); clear h108
      refine pl_want h109 rfl rfl rfl (op_new (v := fun N => .slice (some ⟨N, 0, none⟩) 1 1) (T := 96) (cs := #[.string p50.2.1, .string p50.2.2.1, .bool p50.2.2.2]) (by kernel_rfl) (by kernel_rfl) (by kernel_rfl)) ?_; clear h109
      rintro _ w111 a110 ⟨N112, rfl, hN115, hz116, hk114, hg113⟩ h110
      have ha117 := row_fresh hr106 hN115
      have hB118 := hb_new hB103 hg113
      have hz119 := hB118.size
      have hz120 := hg113.size
      have hr121 := row_kept_new hr106 hg113
      have hI122 := hI107.kept hg113 (by simp) (by simp)
      have hk123 := hk100'.kept hg113 (by simp)
      try dsimp only at h110
      refine pl_want h110 rfl rfl rfl (op_append rfl w.heap.size 96 (z := .agg #[.string (⟨#[]⟩), .string (⟨#[]⟩), .bool false]) (size := 3) (bytes := 40) Try.underlying97 (by kernel_rfl) rfl rfl rfl hr121 rfl hk114 rfl (by kernel_rfl) (by first | omega | (simp only [List.length_nil, List.length_append, List.length_cons, List.length_take, List.length_drop]; omega)) (by first | omega | (simp only [List.length_nil, List.length_append, List.length_cons, List.length_take, List.length_drop]; omega)) (by omega)) ?_; clear h110
      rintro v126 w125 a124 ⟨hr127, hg128⟩ h124
      have hr127' : w125.ownsRow w.heap.size 96 3 v126 ((ss ++ [(p50.2.1, p50.2.2.1, p50.2.2.2)]).length) ((ss ++ [(p50.2.1, p50.2.2.1, p50.2.2.2)]).flatMap opE) := row_push (y := (p50.2.1, p50.2.2.1, p50.2.2.2)) hr127 rfl rfl; clear hr127
      have hB129 := hb_row hB118 hr121 (by omega) hg128
      have hz130 := hB129.size
      have hz131 := hg128.size
      have hI132 := hI122.kept hg128 (hI122.row hr121).1 (hI122.row hr121).2
      have hk133 := hk123.kept hg128 (ha92)
      have hk134 := hk114.kept hg128 (ha117)
      refine pl_val (v := v126) h124 rfl rfl rfl (by kernel_rfl) (by kernel_rfl) (by kernel_rfl) (fun a135 h135 => ?_); clear h124
      refine pl_nil ?_
      refine co_blockN ?_
      refine co_then ?_
      refine ⟨(l51.length + l52.length), by omega, ?_⟩
      rw [hleft53] at hP
      have hP' := perm_step hP
      have hnn' := row_some hr127' (by simp)
      exact ⟨v126, ss ++ [(p50.2.1, p50.2.2.1, p50.2.2.2)], l51 ++ l52, l51.length + l52.length, h135.sub ⟨rfl, rfl, rfl, rfl, rfl, trivial⟩, rfl, by first | rfl | (simp; done) | (simp; omega), by first | exact List.Perm.refl _ | exact hP', by first | (simp; done) | exact hnn', hI132, (row_eq hr127' (rfl)), hB129⟩
end Go.Proofs.Yteioaaegooebpaa
