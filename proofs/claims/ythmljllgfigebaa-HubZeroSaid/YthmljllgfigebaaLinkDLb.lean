/- Package link: add; the document's Send. Conditions: none. -/
import Derived.Test.YthmljllgfigebaaLinkCLb
namespace Go.Proofs.Ythmljllgfigebaa
open Go.RowKit Go.PlainAid
set_option linter.unusedVariables false

set_option maxRecDepth 100000 in
theorem lkAdd_any (S : Nat → Prop) (b : Nat) (u : Value) (L : LnT) (t : ByteArray) (w : World) (hU : LkU 102 S w b u L) (hl8 : L.q.length < 8) (ht : t.size ≤ 65536) :
    Calls Try.prog 72 #[pt b 2, .string t] w fun e w' => ∃ (u' : Value), e = .returned (.tuple #[]) ∧ (∃ S' : Nat → Prop, LkU 102 S' w' b u' { L with q := L.q ++ [t] } ∧ Grew S S' w w') ∧ But (S) w w' := by
 have hB0 := But.refl (S) w
 obtain ⟨hB, ⟨B0, hR⟩, hSS, hbu, hok⟩ := id hU
 have hB : Blk w b 102 #[.int .i64 L.boot, .int .i64 L.stream, .int .i64 L.first, u, .int .i64 L.told, .int .i64 L.peer, .int .i64 L.in0, .int .i64 L.next, .bool L.owes] := hB
 have hl_B := hB.lt
 have hR := row_lows hR (Nat.zero_le _)
 have hsb : S b := (hSS b).2 (.inl rfl)
 have hSb : S b ∨ w.heap.size ≤ b := .inl hsb
 obtain ⟨⟨k1, k2⟩, ⟨k3, k4⟩, ⟨k5, k6⟩, ⟨k7, k8⟩, ⟨k9, k10⟩, ⟨k11, k12⟩, ⟨k13, k14⟩, k15, k16⟩ := id hok
 refine co_enter (n := 14) Try.func72 rfl rfl rfl [(0, pt b 2), (1, .string t)] rfl (fun a h0 => ?_)
 refine co_reg ?_
 refine pk0 (v := pt b 2) h0 rfl fun a1 h1 => ?_; clear h0
 refine pk0 (v := pt b 2) h1 rfl fun a2 h2 => ?_; clear h1
 refine pk0 (v := pt b 2) h2 rfl fun a3 h3 => ?_; clear h2
 refine pk0 (v := pt b 3) h3 rfl fun a4 h4 => ?_; clear h3
 refine pk (v := u) h4 rfl (rn_load1 rfl rfl Try.isAgg38 (hB.cell rfl)) fun a5 h5 => ?_; clear h4
 refine pk0 (v := .string t) h5 rfl fun a6 h6 => ?_; clear h5
 refine pw h6 rfl (op_new (v := fun N => .slice (some ⟨N, 0, none⟩) 1 1) (T := 9) (cs := #[.string t]) (by kernel_rfl) (by kernel_rfl) (by kernel_rfl)) ?_; clear h6
 rintro _ w8 a7 ⟨N9, rfl, hN12, hz13, hk11, hg10⟩ h7
 have ha14 := row_fresh hR hN12
 have hu15 := row_under hR hN12
 have hz16 := hg10.size
 try dsimp only at h7
 have hr23 := row_kept_new hR hg10
 refine pw h7 rfl (op_appendF rfl 0 9 (z := .string (⟨#[]⟩)) (size := 1) (bytes := 16) Try.underlying38 (by kernel_rfl) rfl rfl rfl hr23 rfl hk11 rfl (by kernel_rfl) (by first | omega | (simp only [List.length_nil, List.length_append, List.length_cons, List.length_take, List.length_drop]; omega)) (by first | omega | (simp only [List.length_nil, List.length_append, List.length_cons, List.length_take, List.length_drop]; omega)) (by omega)) ?_; clear h7
 rintro v19 w18 a17 ⟨hr20, hwt22, hg21⟩ h17
 have hr20' : w18.ownsRow 0 9 1 v19 ((L.q ++ [t]).length) ((L.q ++ [t]).flatMap strE) := row_push (y := t) hr20 rfl rfl; clear hr20
 have hz24 := hg21.size
 refine pk0 (v := pt b 2) h17 rfl fun a25 h25 => ?_; clear h17
 refine pk0 (v := pt b 3) h25 rfl fun a26 h26 => ?_; clear h25
 have hk32 := hB.kept hg10 (by simp)
 have hk33 := hk32.kept hg21 (hbu)
 refine pwD h26 rfl (op_store1 rfl rfl rfl (row_one hr20') Try.sizeOf38 hk33 rfl) ?_; clear h26
 rintro _ w28 a27 ⟨hk29, hz30, hg31⟩ h27
 have hk29' : Blk w28 b 102 #[.int .i64 L.boot, .int .i64 L.stream, .int .i64 L.first, v19, .int .i64 L.told, .int .i64 L.peer, .int .i64 L.in0, .int .i64 L.next, .bool L.owes] := hk29; clear hk29
 have hz34 := hg31.size
 refine pl_nil ?_
 refine co_ret0n h27 rfl ?_
 have hr35 := row_kept_at hr20' hg31 (own_neT hr20' hk33 (by decide))
 have hB36 := fbU_new hB0 hg10
 have hB37 := fbU_row hB36 (InS.of (fun i hi => (hSS i).2 (.inr hi))) hg21
 have hB38 := fbU_at hB37 hg31 (fun hlt => by rcases hSb with hq | hq; exact hq; omega)
 have hbl : Blk w28 b 102 (lnC ({ L with q := L.q ++ [t] }) v19) := hk29'
 obtain ⟨S', hq1, hq2⟩ := LkU.row2 (L' := { L with q := L.q ++ [t] }) hU hbl hr35 ((InS.of (fun i hi => (hSS i).2 (.inr hi))).went hwt22 (by omega)) (own_neT hr35 hk29' (by decide)) hB38 (by have h := sendT_ok hok t; unfold sendT at h; rwa [if_neg (by omega), if_neg (by omega)] at h)
 exact ⟨_, rfl, ⟨S', hq1, hq2⟩, hB38⟩
set_option maxRecDepth 100000 in
theorem rlSend_any (S : Nat → Prop) (b : Nat) (u : Value) (L : LnT) (t : ByteArray) (w : World) (hU : LkU 74 S w b u L) :
    Calls Try.prog 35 #[pt b 0, .string t] w fun e w' => ∃ (u' : Value), e = .returned (.int .i64 ((sendT L t).1)) ∧ (∃ S' : Nat → Prop, LkU 74 S' w' b u' (sendT L t).2 ∧ Grew S S' w w') ∧ But (S) w w' := by
 have hB0 := But.refl (S) w
 obtain ⟨hB, ⟨B0, hR⟩, hSS, hbu, hok⟩ := id hU
 have hB : Blk w b 74 #[.int .i64 L.boot, .int .i64 L.stream, .int .i64 L.first, u, .int .i64 L.told, .int .i64 L.peer, .int .i64 L.in0, .int .i64 L.next, .bool L.owes] := hB
 have hl_B := hB.lt
 have hR := row_lows hR (Nat.zero_le _)
 have hsb : S b := (hSS b).2 (.inl rfl)
 have hSb : S b ∨ w.heap.size ≤ b := .inl hsb
 obtain ⟨⟨k1, k2⟩, ⟨k3, k4⟩, ⟨k5, k6⟩, ⟨k7, k8⟩, ⟨k9, k10⟩, ⟨k11, k12⟩, ⟨k13, k14⟩, k15, k16⟩ := id hok
 refine co_enter (n := 26) Try.func35 rfl rfl rfl [(0, pt b 0), (1, .string t)] rfl (fun a h0 => ?_)
 refine co_seq ?_
 refine co_reg ?_
 refine pk0 (v := .int .i64 0) h0 rfl fun a1 h1 => ?_; clear h0
 refine pl_nil ?_
 refine co_then ?_
 refine co_seq ?_
 refine co_seq ?_
 refine co_reg ?_
 refine pk0 (v := .string t) h1 rfl fun a2 h2 => ?_; clear h1
 refine pk (v := .int .i64 ((t.size : Nat) : Int)) h2 rfl (rn_lenStr rfl rfl Try.underlying9) fun a3 h3 => ?_; clear h2
 refine pk0 (v := .bool (decide (((t.size : Nat) : Int) > 65536))) h3 rfl fun a4 h4 => ?_; clear h3
 refine pl_nil ?_
 refine co_then ?_
 cases hc5 : (decide (((t.size : Nat) : Int) > 65536))
 ·
  rw [hc5] at h4
  have hp6 : ¬ (((t.size : Nat) : Int) > 65536) := of_decide_eq_false hc5
  clear hc5
  refine co_false h4 rfl ?_
  refine wp_skip ?_
  refine co_then ?_
  refine co_seq ?_
  refine co_seq ?_
  refine co_reg ?_
  refine pk0 (v := pt b 0) h4 rfl fun a7 h7 => ?_; clear h4
  refine pk0 (v := pt b 0) h7 rfl fun a8 h8 => ?_; clear h7
  refine pk0 (v := pt b 3) h8 rfl fun a9 h9 => ?_; clear h8
  refine pk (v := u) h9 rfl (rn_load1 rfl rfl Try.isAgg38 (hB.cell rfl)) fun a10 h10 => ?_; clear h9
  refine pk (v := .int .i64 ((L.q.length : Nat) : Int)) h10 rfl (rn_lenOwn rfl rfl Try.underlying38 hR) fun a11 h11 => ?_; clear h10
  refine pk0 (v := .bool (decide (((L.q.length : Nat) : Int) ≥ 8))) h11 rfl fun a12 h12 => ?_; clear h11
  refine pl_nil ?_
  refine co_then ?_
  cases hc13 : (decide (((L.q.length : Nat) : Int) ≥ 8))
  ·
   rw [hc13] at h12
   have hp14 : ¬ (((L.q.length : Nat) : Int) ≥ 8) := of_decide_eq_false hc13
   clear hc13
   refine co_false h12 rfl ?_
   refine wp_skip ?_
   refine co_then ?_
   refine co_seq ?_
   refine co_reg ?_
   refine pk0 (v := pt b 0) h12 rfl fun a15 h15 => ?_; clear h12
   refine pw h15 rfl (op_new (v := fun N => .slice (some ⟨N, 0, none⟩) 0 0) (T := 9) (cs := #[]) (by kernel_rfl) (by kernel_rfl) (by kernel_rfl)) ?_; clear h15
   rintro _ w17 a16 ⟨N18, rfl, hN21, hz22, hk20, hg19⟩ h16
   have ha23 := row_fresh hR hN21
   have hu24 := row_under hR hN21
   have hz25 := hg19.size
   try dsimp only at h16
   refine pk0 (v := pt b 0) h16 rfl fun a26 h26 => ?_; clear h16
   refine pk0 (v := pt b 0) h26 rfl fun a27 h27 => ?_; clear h26
   refine pk0 (v := pt b 3) h27 rfl fun a28 h28 => ?_; clear h27
   have hk29 := hB.kept hg19 (by simp)
   refine pk (v := u) h28 rfl (rn_load1 rfl rfl Try.isAgg38 (hk29.cell rfl)) fun a30 h30 => ?_; clear h28
   have hr33 := row_of_blkL hk20 (Nat.le_refl _) 1 strE
   have hr38 := row_kept_new hR hg19
   refine pw h30 rfl (op_appendSrc rfl N18 9 (z := .string (⟨#[]⟩)) (size := 1) (bytes := 16) Try.underlying38 (by kernel_rfl) rfl rfl rfl hr33 rfl (row_sl hr38 strE_len) (fun y hy => ⟨strE_len y, strE_one y⟩) (by first | omega | (simp only [List.length_nil, List.length_append, List.length_cons, List.length_take, List.length_drop]; omega)) (by first | omega | (simp only [List.length_nil, List.length_append, List.length_cons, List.length_take, List.length_drop]; omega)) (by omega)) ?_; clear h30
   rintro v34 w32 a31 ⟨hr35, hg36⟩ h31
   have hr35' : w32.ownsRow N18 9 1 v34 L.q.length (L.q.flatMap strE) := row_app (l := []) hr35; clear hr35
   have hz39 := hg36.size
   refine pk0 (v := .string t) h31 rfl fun a40 h40 => ?_; clear h31
   refine pw h40 rfl (op_new (v := fun N => .slice (some ⟨N, 0, none⟩) 1 1) (T := 9) (cs := #[.string t]) (by kernel_rfl) (by kernel_rfl) (by kernel_rfl)) ?_; clear h40
   rintro _ w42 a41 ⟨N43, rfl, hN46, hz47, hk45, hg44⟩ h41
   have hr49 := row_kept_ap hr38 hr33 hu24 hg36
   have ha48 := row_fresh hr49 hN46
   have hu50 := row_under hr49 hN46
   have ha51 := row_fresh hr35' hN46
   have hu52 := row_under hr35' hN46
   have hz53 := hg44.size
   try dsimp only at h41
   have hr60 := row_kept_new hr35' hg44
   refine pw h41 rfl (op_append rfl N18 9 (z := .string (⟨#[]⟩)) (size := 1) (bytes := 16) Try.underlying38 (by kernel_rfl) rfl rfl rfl hr60 rfl hk45 rfl (by kernel_rfl) (by first | omega | (simp only [List.length_nil, List.length_append, List.length_cons, List.length_take, List.length_drop]; omega)) (by first | omega | (simp only [List.length_nil, List.length_append, List.length_cons, List.length_take, List.length_drop]; omega)) (by omega)) ?_; clear h41
   rintro v56 w55 a54 ⟨hr57, hg58⟩ h54
   have hr57' : w55.ownsRow N18 9 1 v56 ((L.q ++ [t]).length) ((L.q ++ [t]).flatMap strE) := row_push (y := t) hr57 rfl rfl; clear hr57
   have hz61 := hg58.size
   have hk62 := hk29.kept hg36 (own_neT hr33 hk29 (by decide))
   have hk63 := hk62.kept hg44 (by simp)
   refine pk0 (v := pt b 0) h54 rfl fun a64 h64 => ?_; clear h54
   refine pk0 (v := pt b 3) h64 rfl fun a65 h65 => ?_; clear h64
   have hk71 := hk63.kept hg58 (own_neT hr60 hk63 (by decide))
   refine pwD h65 rfl (op_store1 rfl rfl rfl (row_one hr57') Try.sizeOf38 hk71 rfl) ?_; clear h65
   rintro _ w67 a66 ⟨hk68, hz69, hg70⟩ h66
   have hk68' : Blk w67 b 74 #[.int .i64 L.boot, .int .i64 L.stream, .int .i64 L.first, v56, .int .i64 L.told, .int .i64 L.peer, .int .i64 L.in0, .int .i64 L.next, .bool L.owes] := hk68; clear hk68
   have hz72 := hg70.size
   refine pl_nil ?_
   refine co_then ?_
   refine co_seq ?_
   refine co_reg ?_
   refine pk0 (v := .int .i64 0) h66 rfl fun a73 h73 => ?_; clear h66
   refine pl_nil ?_
   refine co_then ?_
   refine wp_ret ?_
   refine co_ret1 h73 rfl rfl ?_
   have hr74 := row_kept_at hr57' hg70 (own_neT hr57' hk71 (by decide))
   have hB75 := fbU_new hB0 hg19
   have hB76 := fbU_row hB75 (InS.low hr33 (by omega)) hg36
   have hB77 := fbU_new hB76 hg44
   have hB78 := fbU_row hB77 (InS.low hr60 (by omega)) hg58
   have hB79 := fbU_at hB78 hg70 (fun hlt => by rcases hSb with hq | hq; exact hq; omega)
   have hbl : Blk w67 b 74 (lnC ({ L with q := L.q ++ [t] }) v56) := hk68'
   obtain ⟨S', hq1, hq2⟩ := LkU.row2 (L' := { L with q := L.q ++ [t] }) hU hbl hr74 (InS.low hr74 (by omega)) (own_neT hr74 hk68' (by decide)) hB79 (by have h := sendT_ok hok t; unfold sendT at h; rwa [if_neg (by omega), if_neg (by omega)] at h)
   have hE : sendT L t = (0, { L with q := L.q ++ [t] }) := by unfold sendT; rw [if_neg (by omega), if_neg (by omega)]
   rw [hE]
   exact ⟨_, rfl, ⟨S', hq1, hq2⟩, hB79⟩
  ·
   rw [hc13] at h12
   have hp80 : ((L.q.length : Nat) : Int) ≥ 8 := of_decide_eq_true hc13
   clear hc13
   refine co_true h12 rfl ?_
   refine co_seq ?_
   refine co_reg ?_
   refine pk0 (v := .int .i64 6) h12 rfl fun a81 h81 => ?_; clear h12
   refine pl_nil ?_
   refine co_then ?_
   refine wp_ret ?_
   refine co_thenR ?_
   refine co_ret1 h81 rfl rfl ?_
   have hE : sendT L t = (6, L) := by unfold sendT; rw [if_neg (by omega), if_pos (by omega)]
   rw [hE]
   exact ⟨u, rfl, ⟨S, LkU.same' hU hB0 hB hR⟩, hB0⟩
 ·
  rw [hc5] at h4
  have hp82 : ((t.size : Nat) : Int) > 65536 := of_decide_eq_true hc5
  clear hc5
  refine co_true h4 rfl ?_
  refine co_seq ?_
  refine co_reg ?_
  refine pk0 (v := .int .i64 3) h4 rfl fun a83 h83 => ?_; clear h4
  refine pl_nil ?_
  refine co_then ?_
  refine wp_ret ?_
  refine co_thenR ?_
  refine co_ret1 h83 rfl rfl ?_
  have hE : sendT L t = (3, L) := by unfold sendT; rw [if_pos (by omega)]
  rw [hE]
  exact ⟨u, rfl, ⟨S, LkU.same' hU hB0 hB hR⟩, hB0⟩
end Go.Proofs.Ythmljllgfigebaa
