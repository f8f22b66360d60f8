/- Put together: RlgBRt. Conditions: as each says. -/
import Derived.Test.YtkjnhghniopnoaaRu1
/- Package rlog: replace. Conditions: at most 100 entries, 20 operations each. -/
namespace Go.Proofs.Ytkjnhghniopnoaa
open Go.RowKit Go.PlainAid
set_option linter.unusedVariables false

set_option maxRecDepth 100000 in
theorem lreplace_any (w0 : World) (S : Nat → Prop) (b : Nat) (M : Nat) (u : Value) (L : List EntT) (i : Int) (c : Int) (r : Int) (v : Value) (l : List OpT) (ts : Int) (w : World) (hbw : But S w0 w) (hO : LgP S w0.heap.size w b M u L) (hi0 : 0 ≤ i ∧ i ≤ L.length ∧ i < 100) (hfn : findN (L.take i.toNat) (c, r) = none) (hs : SliceOf opE 3 w0 v l) (hvS : l ≠ [] → ∀ k, v.ownBlock = some k → ¬ S k) (hlen : l.length ≤ 20) (hts : 0 ≤ ts ∧ ts < 18446744073709551616) (hen : (∀ o ∈ l, opOk o) ∧ (Lit.int .i64 c).wf = true ∧ (Lit.int .i64 r).wf = true) :
    Calls Try.prog 64 #[pt b 0, .int .i64 i, .agg #[.int .i64 c, .int .i64 r, v, .int .u64 ts]] w fun e w' => ∃ (u' : Value) (v' : Value), e = .returned (.tuple #[]) ∧ LgP S w0.heap.size w' b M u' (L.take i.toNat ++ [EntT.mk c r v' l ts]) ∧ True ∧ But (S) w0 w' := by
 have hB0 := hbw
 have hz0 := hbw.size
 have hz0 := hbw.size
 have hl3 := hO.blk.lt; obtain ⟨c1, hm2⟩ := hO.map; have hl4 := hm2.lt; have hne5 := blk_ne_mapN hO.blk hm2; have hln6 := hO.len
 have hln0 := sl_len hs
 have hdl0 : (L.drop i.toNat).length = L.length - i.toNat := List.length_drop
 refine co_enter (n := 47) Try.func64 rfl rfl rfl [(0, pt b 0), (1, .int .i64 i), (2, .agg #[.int .i64 c, .int .i64 r, v, .int .u64 ts])] rfl (fun a h0 => ?_)
 refine co_seq ?_
 refine co_reg ?_
 refine pw h0 rfl (op_new (v := fun N => pt N 0) (T := 40) (cs := #[.int .i64 c, .int .i64 r, v, .int .u64 ts]) (by kernel_rfl) (by kernel_rfl) (by kernel_rfl)) ?_; clear h0
 rintro _ w8 a7 ⟨N9, rfl, hN12, hz13, hk11, hg10⟩ h7
 have ha14 := row_fresh hO.row hN12
 have hu15 := row_under hO.row hN12
 have hz16 := hg10.size
 try dsimp only at h7
 refine pl_nil ?_
 refine co_then ?_
 refine co_seq ?_
 refine co_seq ?_
 refine co_reg ?_
 refine pk0 (v := pt b 0) h7 rfl fun a17 h17 => ?_; clear h7
 refine pk0 (v := pt b 0) h17 rfl fun a18 h18 => ?_; clear h17
 refine pk0 (v := pt b 1) h18 rfl fun a19 h19 => ?_; clear h18
 have hk20 := hO.blk.kept hg10 (by simp)
 refine pk (v := u) h19 rfl (rn_load1 rfl rfl Try.isAgg48 (hk20.cell rfl)) fun a21 h21 => ?_; clear h19
 refine pk0 (v := .int .i64 i) h21 rfl fun a22 h22 => ?_; clear h21
 have hr23 := row_kept_new hO.row hg10
 refine pk (v := subV u ((i).toNat) L.length 4) h22 rfl (rn_sliceFrom rfl rfl rfl Try.underlying48 Try.sizeOf40 (row_sl hr23 entE_len) (by omega) (by omega)) fun a24 h24 => ?_; clear h22
 refine pk (v := .int .i64 (((L.drop ((i).toNat)).length : Nat) : Int)) h24 rfl (rn_len rfl rfl Try.underlying48 (sl_drop (row_sl hr23 entE_len) _ (by omega))) fun a25 h25 => ?_; clear h24
 refine pk0 (v := .int .i64 0) h25 rfl fun a26 h26 => ?_; clear h25
 refine pl_nil ?_
 refine co_then ?_
 refine wp_block ?_
 have h27 : Slots 47 [(0, pt b 0), (1, .int .i64 i), (5, pt N9 0), (13, subV u ((i).toNat) L.length 4), (14, .int .i64 (((L.drop ((i).toNat)).length : Nat) : Int)), (15, .int .i64 0)] _ := h26.sub ⟨rfl, rfl, rfl, rfl, rfl, rfl, trivial⟩; clear h26
 refine co_loop (fun mm a x => ∃ (k : Nat), Slots 47 [(0, pt b 0), (1, .int .i64 i), (5, pt N9 0), (13, subV u ((i).toNat) L.length 4), (14, .int .i64 (((L.drop ((i).toNat)).length : Nat) : Int)), (15, .int .i64 ((k : Nat) : Int))] a ∧ mm = L.length - i.toNat - k ∧ (k + i.toNat ≤ L.length) ∧ x.ownsRow 0 40 4 u L.length (L.flatMap entE) ∧ EntsK S w0.heap.size x L ∧ MapO arr2K spotV x M (delN L i.toNat k) c1 ∧ But (S) w0 x ∧ Blk x b 114 #[.bool true, u, .map (some M)] ∧ Blk x N9 40 #[.int .i64 c, .int .i64 r, v, .int .u64 ts]) (L.length - i.toNat - 0) ?_ ?_
 have hE28 := hO.ents.new hg10
 have hM29 := hm2.kept hg10 (by simp)
 have hB30 := fbU_new hB0 hg10
 · exact ⟨0, h27.sub ⟨rfl, rfl, rfl, rfl, rfl, (slot_eq rfl (congrArg (Value.int .i64) (by first | rfl | omega))), trivial⟩, rfl, by omega, hr23, hE28, (hM29.eq (by first | exact (delN_0 _ _).symm | exact delN_step (by assumption)) (Nat.le_refl _)), hB30, hk20, hk11⟩
 · rintro k31 a32 w33 ⟨k, h32, rfl, hi34, hf35, hf36, hf37, hB38, hk39, hk40⟩
   have hz41 := hB38.size
   have hl42 := hk39.lt
   have hl43 := hk40.lt
   have hl44 := hf37.lt
   refine co_seq ?_
   refine co_reg ?_
   refine pk0 (v := .bool (decide (((k : Nat) : Int) < (((L.drop ((i).toNat)).length : Nat) : Int)))) h32 rfl fun a45 h45 => ?_; clear h32
   refine pl_nil ?_
   refine co_then ?_
   refine co_seq ?_
   cases hc46 : (decide (((k : Nat) : Int) < (((L.drop ((i).toNat)).length : Nat) : Int)))
   ·
    rw [hc46] at h45
    have hp47 : ¬ (((k : Nat) : Int) < (((L.drop ((i).toNat)).length : Nat) : Int)) := of_decide_eq_false hc46
    clear hc46
    refine co_false h45 rfl ?_
    refine wp_exit ?_
    refine co_thenX ?_
    refine co_thenX ?_
    refine co_blockX ?_
    refine co_then ?_
    refine co_seq ?_
    refine dr_gen (fun x => But (S) w0 x ∧ Blk x N9 40 #[.int .i64 c, .int .i64 r, v, .int .u64 ts]) (by kernel_rfl) (fun w48 hg49 => ?_) (fun w48 hg49 => ?_)
    ·
     have hz50 := hg49.size
     have hB51 := fbU_new hB38 hg49
     have hk52 := hk40.kept hg49 (by simp)
     exact ⟨hB51, hk52⟩
    have hz53 := hg49.size
    have hB54 := fbU_new hB38 hg49
    have hk55 := hk40.kept hg49 (by simp)
    refine dk0 0 (v := pt b 0) h45 rfl rfl ⟨hB54, hk55⟩ fun a56 h56 => ?_; clear h45
    refine dk0 1 (v := pt b 0) h56 rfl rfl ⟨hB54, hk55⟩ fun a57 h57 => ?_; clear h56
    refine dk0 2 (v := pt b 0) h57 rfl rfl ⟨hB54, hk55⟩ fun a58 h58 => ?_; clear h57
    refine dk0 3 (v := pt b 1) h58 rfl rfl ⟨hB54, hk55⟩ fun a59 h59 => ?_; clear h58
    refine dk0 5 (v := .int .i64 i) h59 rfl rfl ⟨hB54, hk55⟩ fun a60 h60 => ?_; clear h59
    refine dk 7 (v := .agg #[.int .i64 c, .int .i64 r, v, .int .u64 ts]) h60 rfl rfl ⟨hB54, hk55⟩ (fun x hx => (rn_loadN rfl rfl Try.underlying40 rfl (by kernel_rfl) hx.2.all)) fun a61 h61 => ?_; clear h60
    refine dr_many [4, 8] (by kernel_rfl) (by simp) ⟨?_, ?_, trivial⟩
    ·
     have hk62 := hk39.kept hg49 (by simp)
     refine dr_opVal (i := 4) (v := u) h61 rfl rfl rfl rfl (by kernel_rfl) rfl (rn_load1 rfl rfl Try.isAgg48 (hk62.cell rfl)) ⟨hB54, hk55⟩ (fun a63 h63 => ?_); clear h61
     refine dr_many [6, 8] (by kernel_rfl) (by simp) ⟨?_, ?_, trivial⟩
     ·
      have hr64 := row_kept_new hf35 hg49
      have hr65 := row_cut hr64 entE_len ((i).toNat) (by omega) (.inr trivial)
      refine dr_opVal (i := 6) (v := subV u 0 ((i).toNat) 4) h63 rfl rfl rfl rfl (by kernel_rfl) rfl (rn_sliceTo rfl rfl rfl Try.underlying48 Try.sizeOf40 (row_sl hr64 entE_len) (by omega) (by omega)) ⟨hB54, hk55⟩ (fun a66 h66 => ?_); clear h63
      refine d1 8 h66 rfl rfl (op_call (args := #[.agg #[.int .i64 c, .int .i64 r, v, .int .u64 ts]]) (R := fun res xw => ∃ u : Value, res = .agg #[.int .i64 c, .int .i64 r, u, .int .u64 ts] ∧ xw.ownsRow w48.heap.size 74 3 u l.length (l.flatMap opE) ∧ Below w48.heap.size w48 xw) rfl rfl rfl (by kernel_rfl) (by kernel_rfl) (Try.call69 _ _) (freshEntry_any c r v l ts w48 (sl_butN hs hB54 hvS) (by first | omega | (simp; done) | (simp; omega))) (by rintro e x ⟨u, rfl, hq70, hb71⟩; exact ⟨_, rfl, ⟨u, rfl, hq70, hb71⟩⟩)) ?_ ?_; clear h66
      ·
       rintro _ w68 ⟨u69, rfl, hq70, hb71⟩
       have hz72 := hb71.size
       have hl73 := sl_len (row_sl hq70 opE_len)
       have hB74 := fbU_call hB54 hb71
       have hk75 := hk55.below hb71
       exact ⟨hB74, hk75⟩
      rintro _ w68 a67 ⟨u69, rfl, hq70, hb71⟩ h67
      have hz72 := hb71.size
      have hl73 := sl_len (row_sl hq70 opE_len)
      have hB74 := fbU_call hB54 hb71
      have hk75 := hk55.below hb71
      refine d1 9 h67 rfl rfl (op_new (v := fun N => .slice (some ⟨N, 0, none⟩) 1 1) (T := 40) (cs := #[.int .i64 c, .int .i64 r, u69, .int .u64 ts]) (by kernel_rfl) (by kernel_rfl) (by kernel_rfl)) ?_ ?_; clear h67
      ·
       rintro _ w77 ⟨N78, rfl, hN81, hz82, hk80, hg79⟩
       have hr84 := row_kept_new hr64 (below_grown hb71)
       have ha83 := row_fresh hr84 hN81
       have hu85 := row_under hr84 hN81
       have hr87 := row_kept_new hr65 (below_grown hb71)
       have ha86 := row_fresh hr87 hN81
       have hu88 := row_under hr87 hN81
       have ha89 := row_fresh hq70 hN81
       have hu90 := row_under hq70 hN81
       have hz91 := hg79.size
       have hB92 := fbU_new hB74 hg79
       have hk93 := hk75.kept hg79 (by simp)
       exact ⟨hB92, hk93⟩
      rintro _ w77 a76 ⟨N78, rfl, hN81, hz82, hk80, hg79⟩ h76
      have hr84 := row_kept_new hr64 (below_grown hb71)
      have ha83 := row_fresh hr84 hN81
      have hu85 := row_under hr84 hN81
      have hr87 := row_kept_new hr65 (below_grown hb71)
      have ha86 := row_fresh hr87 hN81
      have hu88 := row_under hr87 hN81
      have ha89 := row_fresh hq70 hN81
      have hu90 := row_under hq70 hN81
      have hz91 := hg79.size
      try dsimp only at h76
      have hB92 := fbU_new hB74 hg79
      have hk93 := hk75.kept hg79 (by simp)
      have hr100 := row_kept_new hr87 hg79
      have hr101 := row_kept_new hq70 hg79
      refine d1 10 h76 rfl rfl (op_appendF rfl 0 40 (z := .agg #[.int .i64 0, .int .i64 0, .slice none 0 0, .int .u64 0]) (size := 4) (bytes := 48) Try.underlying48 (by kernel_rfl) rfl rfl rfl hr100 rfl hk80 rfl (all_cons rfl (all_cons rfl (all_cons (row_one hr101) (all_cons rfl all_nil)))) (by first | omega | (simp only [List.length_nil, List.length_append, List.length_cons, List.length_take, List.length_drop]; omega)) (by first | omega | (simp only [List.length_nil, List.length_append, List.length_cons, List.length_take, List.length_drop]; omega)) (by omega)) ?_ ?_; clear h76
      ·
       rintro v96 w95 ⟨hr97, hwt99, hg98⟩
       have hr97' : w95.ownsRow 0 40 4 v96 ((L.take ((i).toNat) ++ [(EntT.mk c r u69 l ts)]).length) ((L.take ((i).toNat) ++ [(EntT.mk c r u69 l ts)]).flatMap entE) := row_push (y := (EntT.mk c r u69 l ts)) hr97 rfl rfl; clear hr97
       have hz102 := hg98.size
       have hB103 := fbU_row hB92 (show InS (S) w0.heap.size (subV u 0 ((i).toNat) 4) from fun qi hqi => hO.su qi ((cut_block hr64 ((i).toNat)) ▸ hqi)) hg98
       have hk104 := hk93.kept hg98 ((fun eq => ha14 ((cut_block hr64 ((i).toNat)) ▸ eq)))
       exact ⟨hB103, hk104⟩
      rintro v96 w95 a94 ⟨hr97, hwt99, hg98⟩ h94
      have hr97' : w95.ownsRow 0 40 4 v96 ((L.take ((i).toNat) ++ [(EntT.mk c r u69 l ts)]).length) ((L.take ((i).toNat) ++ [(EntT.mk c r u69 l ts)]).flatMap entE) := row_push (y := (EntT.mk c r u69 l ts)) hr97 rfl rfl; clear hr97
      have hz102 := hg98.size
      have hB103 := fbU_row hB92 (show InS (S) w0.heap.size (subV u 0 ((i).toNat) 4) from fun qi hqi => hO.su qi ((cut_block hr64 ((i).toNat)) ▸ hqi)) hg98
      have hk104 := hk93.kept hg98 ((fun eq => ha14 ((cut_block hr64 ((i).toNat)) ▸ eq)))
      refine dk0 11 (v := pt b 0) h94 rfl rfl ⟨hB103, hk104⟩ fun a105 h105 => ?_; clear h94
      refine dk0 12 (v := pt b 1) h105 rfl rfl ⟨hB103, hk104⟩ fun a106 h106 => ?_; clear h105
      have hk112 := hk62.below hb71
      have hk113 := hk112.kept hg79 (by simp)
      have hk114 := hk113.kept hg98 (own_neT hr100 hk113 (by decide))
      refine d1D 13 h106 rfl rfl (op_store1 rfl rfl rfl (row_one hr97') Try.sizeOf48 hk114 rfl) ?_ ?_; clear h106
      ·
       rintro _ w108 ⟨hk109, hz110, hg111⟩
       have hk109' : Blk w108 b 114 #[.bool true, v96, .map (some M)] := hk109; clear hk109
       have hz115 := hg111.size
       have hB116 := fbU_at hB103 hg111 (fun hlt => by rcases hO.sb with hq | hq; exact hq; omega)
       have hk117 := hk104.kept hg111 (by simp; omega)
       exact ⟨hB116, hk117⟩
      rintro _ w108 a107 ⟨hk109, hz110, hg111⟩ h107
      have hk109' : Blk w108 b 114 #[.bool true, v96, .map (some M)] := hk109; clear hk109
      have hz115 := hg111.size
      refine dr_done (by kernel_rfl) ?_
      refine co_then ?_
      refine dr_gen (fun x => But (S) w0 x ∧ Blk x N9 40 #[.int .i64 c, .int .i64 r, v, .int .u64 ts] ∧ Blk x b 114 #[.bool true, v96, .map (some M)]) (by kernel_rfl) (fun w116 hg117 => ?_) (fun w116 hg117 => ?_)
      ·
       have hz118 := hg117.size
       have hB119 := fbU_at hB103 hg111 (fun hlt => by rcases hO.sb with hq | hq; exact hq; omega)
       have hB120 := fbU_new hB119 hg117
       have hk121 := hk104.kept hg111 (by simp; omega)
       have hk122 := hk121.kept hg117 (by simp)
       have hk123 := hk109'.kept hg117 (by simp)
       exact ⟨hB120, hk122, hk123⟩
      have hz124 := hg117.size
      have hB125 := fbU_at hB103 hg111 (fun hlt => by rcases hO.sb with hq | hq; exact hq; omega)
      have hB126 := fbU_new hB125 hg117
      have hk127 := hk104.kept hg111 (by simp; omega)
      have hk128 := hk127.kept hg117 (by simp)
      have hk129 := hk109'.kept hg117 (by simp)
      refine dk0 0 (v := pt b 0) h107 rfl rfl ⟨hB126, hk128, hk129⟩ fun a130 h130 => ?_; clear h107
      refine dk0 1 (v := pt b 0) h130 rfl rfl ⟨hB126, hk128, hk129⟩ fun a131 h131 => ?_; clear h130
      refine dk0 2 (v := pt b 2) h131 rfl rfl ⟨hB126, hk128, hk129⟩ fun a132 h132 => ?_; clear h131
      refine dk 3 (v := .map (some M)) h132 rfl rfl ⟨hB126, hk128, hk129⟩ (fun x hx => (rn_load1 rfl rfl Try.isAgg112 (hx.2.2.cell rfl))) fun a133 h133 => ?_; clear h132
      refine dk 4 (v := .agg #[.int .i64 c, .int .i64 r, v, .int .u64 ts]) h133 rfl rfl ⟨hB126, hk128, hk129⟩ (fun x hx => (rn_loadN rfl rfl Try.underlying40 rfl (by kernel_rfl) hx.2.1.all)) fun a134 h134 => ?_; clear h133
      refine dk0 6 (v := .int .i64 i) h134 rfl rfl ⟨hB126, hk128, hk129⟩ fun a135 h135 => ?_; clear h134
      refine dk0 7 (v := .agg #[.int .i64 i]) h135 rfl rfl ⟨hB126, hk128, hk129⟩ fun a136 h136 => ?_; clear h135
      refine d1 5 h136 rfl rfl (op_call (args := #[.agg #[.int .i64 c, .int .i64 r, v, .int .u64 ts]]) (R := fun res xw => res = .agg #[.int .i64 c, .int .i64 r] ∧ Below w116.heap.size w116 xw) rfl rfl rfl (by kernel_rfl) (by kernel_rfl) (Try.call62 _ _) (lname_any c r v ts w116 ) (by rintro e x ⟨rfl, hb139⟩; exact ⟨_, rfl, ⟨rfl, hb139⟩⟩)) ?_ ?_; clear h136
      ·
       rintro _ w138 ⟨rfl, hb139⟩
       have hz140 := hb139.size
       have hB141 := fbU_call hB126 hb139
       have hk142 := hk128.below hb139
       have hk143 := hk129.below hb139
       exact ⟨hB141, hk142, hk143⟩
      rintro _ w138 a137 ⟨rfl, hb139⟩ h137
      have hz140 := hb139.size
      have hB141 := fbU_call hB126 hb139
      have hk142 := hk128.below hb139
      have hk143 := hk129.below hb139
      have hM149 := hf37.kept hg49 (by simp)
      have hM150 := hM149.kept (below_grown hb71) (by simp)
      have hM151 := hM150.kept hg79 (by simp)
      have hM152 := hM151.kept hg98 (hM151.row hr100)
      have hM153 := hM152.kept hg111 (by simp; omega)
      have hM154 := hM153.kept hg117 (by simp)
      have hM155 := hM154.kept (below_grown hb139) (by simp)
      refine d1D 8 h137 rfl rfl (op_updateO (a := (c, r)) (v := i) nm_kl rfl rfl rfl rfl Try.underlying112 hM155) ?_ ?_; clear h137
      ·
       rintro _ w145 ⟨hm146, hz147, hg148⟩
       have hz156 := hg148.size
       have hl157 := hm146.lt
       have hB158 := fbU_at hB141 hg148 (fun hlt => by rcases hO.sM with hq | hq; exact hq; omega)
       have hk159 := hk142.kept hg148 (by simp; omega)
       have hk160 := hk143.kept hg148 (by simp; omega)
       exact ⟨hB158, hk159, hk160⟩
      rintro _ w145 a144 ⟨hm146, hz147, hg148⟩ h144
      have hz156 := hg148.size
      have hl157 := hm146.lt
      refine dr_done (by kernel_rfl) ?_
      refine co_ret0n h144 rfl ?_
      have hr158 := row_kept_row hr101 hr100 hg98 (by decide)
      have hr159 := row_kept_at hr158 hg111 (own_neT hr158 hk114 (by decide))
      have hr160 := row_kept_new hr159 hg117
      have hr161 := row_kept_new hr160 (below_grown hb139)
      have hr162 := row_kept_at hr161 hg148 (hM155.row hr161)
      have hE163 := hf36.new hg49
      have hE164 := hE163.new (below_grown hb71)
      have hE165 := hE164.new hg79
      have hE166 := hE165.row hr100 (by decide) hg98
      have hE167 := hE166.blk hk114 (by decide) hg111
      have hE168 := hE167.new hg117
      have hE169 := hE168.new (below_grown hb139)
      have hE170 := hE169.map hM155 hg148
      have hr171 := row_kept_at hr97' hg111 (own_neT hr97' hk114 (by decide))
      have hr172 := row_kept_new hr171 hg117
      have hr173 := row_kept_new hr172 (below_grown hb139)
      have hr174 := row_kept_at hr173 hg148 (hM155.row hr173)
      have hk175 := hk143.kept hg148 (by simp; omega)
      have hB176 := fbU_at hB141 hg148 (fun hlt => by rcases hO.sM with hq | hq; exact hq; omega)
      have hEK : EntK S w0.heap.size w145 (EntT.mk c r u69 l ts) := ⟨row_lows hr162 (Nat.zero_le _), InS.low hr162 (by omega), hlen, hen.1, hts.1, hts.2, hen.2.1, hen.2.2⟩
      have hEs := (EntsK.take hE170 i.toNat).snoc hEK
      have hlt : (L.take i.toNat).length = i.toNat := by rw [List.length_take]; omega
      have hdl : (L.drop i.toNat).length = L.length - i.toNat := List.length_drop
      have hfs := findN_snoc (A := L.take i.toNat) (e := (EntT.mk c r u69 l ts)) hfn
      exact ⟨v96, u69, rfl, ⟨hk175, ⟨_, hm146.eq ((by rw [delN_end hO.uq (by omega), hfs, hlt, Int.toNat_of_nonneg (by omega)]; rfl)) (Nat.le_refl _)⟩, (row_eq hr174 (by first | rfl | simp)), hEs, hO.sb, hO.sM, ((show InS (S) w0.heap.size (subV u 0 ((i).toNat) 4) from fun qi hqi => hO.su qi ((cut_block hr64 ((i).toNat)) ▸ hqi)).went hwt99 (by omega)), ((hO.uq.take _).snoc hfn), (by rw [List.length_append, hlt]; simp; omega)⟩, trivial, hB176⟩
     ·
      refine dr_op (i := 8) h63 rfl rfl rfl rfl (op_call (args := #[.agg #[.int .i64 c, .int .i64 r, v, .int .u64 ts]]) (R := fun res xw => ∃ u : Value, res = .agg #[.int .i64 c, .int .i64 r, u, .int .u64 ts] ∧ xw.ownsRow w48.heap.size 74 3 u l.length (l.flatMap opE) ∧ Below w48.heap.size w48 xw) rfl rfl rfl (by kernel_rfl) (by kernel_rfl) (Try.call69 _ _) (freshEntry_any c r v l ts w48 (sl_butN hs hB54 hvS) (by first | omega | (simp; done) | (simp; omega))) (by rintro e x ⟨u, rfl, hq180, hb181⟩; exact ⟨_, rfl, ⟨u, rfl, hq180, hb181⟩⟩)) ?_ ?_; clear h63
      ·
       rintro _ w178 ⟨u179, rfl, hq180, hb181⟩
       have hz182 := hb181.size
       have hl183 := sl_len (row_sl hq180 opE_len)
       have hB184 := fbU_call hB54 hb181
       have hk185 := hk55.below hb181
       exact ⟨hB184, hk185⟩
      rintro _ w178 a177 ⟨u179, rfl, hq180, hb181⟩ h177
      have hz182 := hb181.size
      have hl183 := sl_len (row_sl hq180 opE_len)
      have hB184 := fbU_call hB54 hb181
      have hk185 := hk55.below hb181
      refine dr_many [6, 9] (by kernel_rfl) (by simp) ⟨?_, ?_, trivial⟩
      ·
       have hr186 := row_kept_new hf35 hg49
       have hr187 := row_kept_new hr186 (below_grown hb181)
       have hr188 := row_cut hr187 entE_len ((i).toNat) (by omega) (.inr trivial)
       refine dr_opVal (i := 6) (v := subV u 0 ((i).toNat) 4) h177 rfl rfl rfl rfl (by kernel_rfl) rfl (rn_sliceTo rfl rfl rfl Try.underlying48 Try.sizeOf40 (row_sl hr187 entE_len) (by omega) (by omega)) ⟨hB184, hk185⟩ (fun a189 h189 => ?_); clear h177
       refine d1 9 h189 rfl rfl (op_new (v := fun N => .slice (some ⟨N, 0, none⟩) 1 1) (T := 40) (cs := #[.int .i64 c, .int .i64 r, u179, .int .u64 ts]) (by kernel_rfl) (by kernel_rfl) (by kernel_rfl)) ?_ ?_; clear h189
       ·
        rintro _ w191 ⟨N192, rfl, hN195, hz196, hk194, hg193⟩
        have ha197 := row_fresh hr187 hN195
        have hu198 := row_under hr187 hN195
        have ha199 := row_fresh hq180 hN195
        have hu200 := row_under hq180 hN195
        have ha201 := row_fresh hr188 hN195
        have hu202 := row_under hr188 hN195
        have hz203 := hg193.size
        have hB204 := fbU_new hB184 hg193
        have hk205 := hk185.kept hg193 (by simp)
        exact ⟨hB204, hk205⟩
       rintro _ w191 a190 ⟨N192, rfl, hN195, hz196, hk194, hg193⟩ h190
       have ha197 := row_fresh hr187 hN195
       have hu198 := row_under hr187 hN195
       have ha199 := row_fresh hq180 hN195
       have hu200 := row_under hq180 hN195
       have ha201 := row_fresh hr188 hN195
       have hu202 := row_under hr188 hN195
       have hz203 := hg193.size
       try dsimp only at h190
       have hB204 := fbU_new hB184 hg193
       have hk205 := hk185.kept hg193 (by simp)
       have hr212 := row_kept_new hr188 hg193
       have hr213 := row_kept_new hq180 hg193
       refine d1 10 h190 rfl rfl (op_appendF rfl 0 40 (z := .agg #[.int .i64 0, .int .i64 0, .slice none 0 0, .int .u64 0]) (size := 4) (bytes := 48) Try.underlying48 (by kernel_rfl) rfl rfl rfl hr212 rfl hk194 rfl (all_cons rfl (all_cons rfl (all_cons (row_one hr213) (all_cons rfl all_nil)))) (by first | omega | (simp only [List.length_nil, List.length_append, List.length_cons, List.length_take, List.length_drop]; omega)) (by first | omega | (simp only [List.length_nil, List.length_append, List.length_cons, List.length_take, List.length_drop]; omega)) (by omega)) ?_ ?_; clear h190
       ·
        rintro v208 w207 ⟨hr209, hwt211, hg210⟩
        have hr209' : w207.ownsRow 0 40 4 v208 ((L.take ((i).toNat) ++ [(EntT.mk c r u179 l ts)]).length) ((L.take ((i).toNat) ++ [(EntT.mk c r u179 l ts)]).flatMap entE) := row_push (y := (EntT.mk c r u179 l ts)) hr209 rfl rfl; clear hr209
        have hz214 := hg210.size
        have hB215 := fbU_row hB204 (show InS (S) w0.heap.size (subV u 0 ((i).toNat) 4) from fun qi hqi => hO.su qi ((cut_block hr187 ((i).toNat)) ▸ hqi)) hg210
        have hk216 := hk205.kept hg210 ((fun eq => ha14 ((cut_block hr187 ((i).toNat)) ▸ eq)))
        exact ⟨hB215, hk216⟩
       rintro v208 w207 a206 ⟨hr209, hwt211, hg210⟩ h206
       have hr209' : w207.ownsRow 0 40 4 v208 ((L.take ((i).toNat) ++ [(EntT.mk c r u179 l ts)]).length) ((L.take ((i).toNat) ++ [(EntT.mk c r u179 l ts)]).flatMap entE) := row_push (y := (EntT.mk c r u179 l ts)) hr209 rfl rfl; clear hr209
       have hz214 := hg210.size
       have hB215 := fbU_row hB204 (show InS (S) w0.heap.size (subV u 0 ((i).toNat) 4) from fun qi hqi => hO.su qi ((cut_block hr187 ((i).toNat)) ▸ hqi)) hg210
       have hk216 := hk205.kept hg210 ((fun eq => ha14 ((cut_block hr187 ((i).toNat)) ▸ eq)))
       refine dk0 11 (v := pt b 0) h206 rfl rfl ⟨hB215, hk216⟩ fun a217 h217 => ?_; clear h206
       refine dk0 12 (v := pt b 1) h217 rfl rfl ⟨hB215, hk216⟩ fun a218 h218 => ?_; clear h217
       have hk224 := hk62.below hb181
       have hk225 := hk224.kept hg193 (by simp)
       have hk226 := hk225.kept hg210 (own_neT hr212 hk225 (by decide))
       refine d1D 13 h218 rfl rfl (op_store1 rfl rfl rfl (row_one hr209') Try.sizeOf48 hk226 rfl) ?_ ?_; clear h218
       ·
        rintro _ w220 ⟨hk221, hz222, hg223⟩
        have hk221' : Blk w220 b 114 #[.bool true, v208, .map (some M)] := hk221; clear hk221
        have hz227 := hg223.size
        have hB228 := fbU_at hB215 hg223 (fun hlt => by rcases hO.sb with hq | hq; exact hq; omega)
        have hk229 := hk216.kept hg223 (by simp; omega)
        exact ⟨hB228, hk229⟩
       rintro _ w220 a219 ⟨hk221, hz222, hg223⟩ h219
       have hk221' : Blk w220 b 114 #[.bool true, v208, .map (some M)] := hk221; clear hk221
       have hz227 := hg223.size
       refine dr_done (by kernel_rfl) ?_
       refine co_then ?_
       refine dr_gen (fun x => But (S) w0 x ∧ Blk x N9 40 #[.int .i64 c, .int .i64 r, v, .int .u64 ts] ∧ Blk x b 114 #[.bool true, v208, .map (some M)]) (by kernel_rfl) (fun w228 hg229 => ?_) (fun w228 hg229 => ?_)
       ·
        have hz230 := hg229.size
        have hB231 := fbU_at hB215 hg223 (fun hlt => by rcases hO.sb with hq | hq; exact hq; omega)
        have hB232 := fbU_new hB231 hg229
        have hk233 := hk216.kept hg223 (by simp; omega)
        have hk234 := hk233.kept hg229 (by simp)
        have hk235 := hk221'.kept hg229 (by simp)
        exact ⟨hB232, hk234, hk235⟩
       have hz236 := hg229.size
       have hB237 := fbU_at hB215 hg223 (fun hlt => by rcases hO.sb with hq | hq; exact hq; omega)
       have hB238 := fbU_new hB237 hg229
       have hk239 := hk216.kept hg223 (by simp; omega)
       have hk240 := hk239.kept hg229 (by simp)
       have hk241 := hk221'.kept hg229 (by simp)
       refine dk0 0 (v := pt b 0) h219 rfl rfl ⟨hB238, hk240, hk241⟩ fun a242 h242 => ?_; clear h219
       refine dk0 1 (v := pt b 0) h242 rfl rfl ⟨hB238, hk240, hk241⟩ fun a243 h243 => ?_; clear h242
       refine dk0 2 (v := pt b 2) h243 rfl rfl ⟨hB238, hk240, hk241⟩ fun a244 h244 => ?_; clear h243
       refine dk 3 (v := .map (some M)) h244 rfl rfl ⟨hB238, hk240, hk241⟩ (fun x hx => (rn_load1 rfl rfl Try.isAgg112 (hx.2.2.cell rfl))) fun a245 h245 => ?_; clear h244
       refine dk 4 (v := .agg #[.int .i64 c, .int .i64 r, v, .int .u64 ts]) h245 rfl rfl ⟨hB238, hk240, hk241⟩ (fun x hx => (rn_loadN rfl rfl Try.underlying40 rfl (by kernel_rfl) hx.2.1.all)) fun a246 h246 => ?_; clear h245
       refine dk0 6 (v := .int .i64 i) h246 rfl rfl ⟨hB238, hk240, hk241⟩ fun a247 h247 => ?_; clear h246
       refine dk0 7 (v := .agg #[.int .i64 i]) h247 rfl rfl ⟨hB238, hk240, hk241⟩ fun a248 h248 => ?_; clear h247
       refine d1 5 h248 rfl rfl (op_call (args := #[.agg #[.int .i64 c, .int .i64 r, v, .int .u64 ts]]) (R := fun res xw => res = .agg #[.int .i64 c, .int .i64 r] ∧ Below w228.heap.size w228 xw) rfl rfl rfl (by kernel_rfl) (by kernel_rfl) (Try.call62 _ _) (lname_any c r v ts w228 ) (by rintro e x ⟨rfl, hb251⟩; exact ⟨_, rfl, ⟨rfl, hb251⟩⟩)) ?_ ?_; clear h248
       ·
        rintro _ w250 ⟨rfl, hb251⟩
        have hz252 := hb251.size
        have hB253 := fbU_call hB238 hb251
        have hk254 := hk240.below hb251
        have hk255 := hk241.below hb251
        exact ⟨hB253, hk254, hk255⟩
       rintro _ w250 a249 ⟨rfl, hb251⟩ h249
       have hz252 := hb251.size
       have hB253 := fbU_call hB238 hb251
       have hk254 := hk240.below hb251
       have hk255 := hk241.below hb251
       have hM261 := hf37.kept hg49 (by simp)
       have hM262 := hM261.kept (below_grown hb181) (by simp)
       have hM263 := hM262.kept hg193 (by simp)
       have hM264 := hM263.kept hg210 (hM263.row hr212)
       have hM265 := hM264.kept hg223 (by simp; omega)
       have hM266 := hM265.kept hg229 (by simp)
       have hM267 := hM266.kept (below_grown hb251) (by simp)
       refine d1D 8 h249 rfl rfl (op_updateO (a := (c, r)) (v := i) nm_kl rfl rfl rfl rfl Try.underlying112 hM267) ?_ ?_; clear h249
       ·
        rintro _ w257 ⟨hm258, hz259, hg260⟩
        have hz268 := hg260.size
        have hl269 := hm258.lt
        have hB270 := fbU_at hB253 hg260 (fun hlt => by rcases hO.sM with hq | hq; exact hq; omega)
        have hk271 := hk254.kept hg260 (by simp; omega)
        have hk272 := hk255.kept hg260 (by simp; omega)
        exact ⟨hB270, hk271, hk272⟩
       rintro _ w257 a256 ⟨hm258, hz259, hg260⟩ h256
       have hz268 := hg260.size
       have hl269 := hm258.lt
       refine dr_done (by kernel_rfl) ?_
       refine co_ret0n h256 rfl ?_
       have hr270 := row_kept_row hr213 hr212 hg210 (by decide)
       have hr271 := row_kept_at hr270 hg223 (own_neT hr270 hk226 (by decide))
       have hr272 := row_kept_new hr271 hg229
       have hr273 := row_kept_new hr272 (below_grown hb251)
       have hr274 := row_kept_at hr273 hg260 (hM267.row hr273)
       have hE275 := hf36.new hg49
       have hE276 := hE275.new (below_grown hb181)
       have hE277 := hE276.new hg193
       have hE278 := hE277.row hr212 (by decide) hg210
       have hE279 := hE278.blk hk226 (by decide) hg223
       have hE280 := hE279.new hg229
       have hE281 := hE280.new (below_grown hb251)
       have hE282 := hE281.map hM267 hg260
       have hr283 := row_kept_at hr209' hg223 (own_neT hr209' hk226 (by decide))
       have hr284 := row_kept_new hr283 hg229
       have hr285 := row_kept_new hr284 (below_grown hb251)
       have hr286 := row_kept_at hr285 hg260 (hM267.row hr285)
       have hk287 := hk255.kept hg260 (by simp; omega)
       have hB288 := fbU_at hB253 hg260 (fun hlt => by rcases hO.sM with hq | hq; exact hq; omega)
       have hEK : EntK S w0.heap.size w257 (EntT.mk c r u179 l ts) := ⟨row_lows hr274 (Nat.zero_le _), InS.low hr274 (by omega), hlen, hen.1, hts.1, hts.2, hen.2.1, hen.2.2⟩
       have hEs := (EntsK.take hE282 i.toNat).snoc hEK
       have hlt : (L.take i.toNat).length = i.toNat := by rw [List.length_take]; omega
       have hdl : (L.drop i.toNat).length = L.length - i.toNat := List.length_drop
       have hfs := findN_snoc (A := L.take i.toNat) (e := (EntT.mk c r u179 l ts)) hfn
       exact ⟨v208, u179, rfl, ⟨hk287, ⟨_, hm258.eq ((by rw [delN_end hO.uq (by omega), hfs, hlt, Int.toNat_of_nonneg (by omega)]; rfl)) (Nat.le_refl _)⟩, (row_eq hr286 (by first | rfl | simp)), hEs, hO.sb, hO.sM, ((show InS (S) w0.heap.size (subV u 0 ((i).toNat) 4) from fun qi hqi => hO.su qi ((cut_block hr187 ((i).toNat)) ▸ hqi)).went hwt211 (by omega)), ((hO.uq.take _).snoc hfn), (by rw [List.length_append, hlt]; simp; omega)⟩, trivial, hB288⟩
      ·
       refine dr_op (i := 9) h177 rfl rfl rfl rfl (op_new (v := fun N => .slice (some ⟨N, 0, none⟩) 1 1) (T := 40) (cs := #[.int .i64 c, .int .i64 r, u179, .int .u64 ts]) (by kernel_rfl) (by kernel_rfl) (by kernel_rfl)) ?_ ?_; clear h177
       ·
        rintro _ w290 ⟨N291, rfl, hN294, hz295, hk293, hg292⟩
        have hr297 := row_kept_new hf35 hg49
        have hr298 := row_kept_new hr297 (below_grown hb181)
        have ha296 := row_fresh hr298 hN294
        have hu299 := row_under hr298 hN294
        have ha300 := row_fresh hq180 hN294
        have hu301 := row_under hq180 hN294
        have hz302 := hg292.size
        have hB303 := fbU_new hB184 hg292
        have hk304 := hk185.kept hg292 (by simp)
        exact ⟨hB303, hk304⟩
       rintro _ w290 a289 ⟨N291, rfl, hN294, hz295, hk293, hg292⟩ h289
       have hr297 := row_kept_new hf35 hg49
       have hr298 := row_kept_new hr297 (below_grown hb181)
       have ha296 := row_fresh hr298 hN294
       have hu299 := row_under hr298 hN294
       have ha300 := row_fresh hq180 hN294
       have hu301 := row_under hq180 hN294
       have hz302 := hg292.size
       try dsimp only at h289
       have hB303 := fbU_new hB184 hg292
       have hk304 := hk185.kept hg292 (by simp)
       refine dr_many [6] (by kernel_rfl) (by simp) ⟨?_, trivial⟩
       ·
        have hr305 := row_kept_new hr298 hg292
        have hr306 := row_cut hr305 entE_len ((i).toNat) (by omega) (.inr trivial)
        refine dr_opVal (i := 6) (v := subV u 0 ((i).toNat) 4) h289 rfl rfl rfl rfl (by kernel_rfl) rfl (rn_sliceTo rfl rfl rfl Try.underlying48 Try.sizeOf40 (row_sl hr305 entE_len) (by omega) (by omega)) ⟨hB303, hk304⟩ (fun a307 h307 => ?_); clear h289
        have hr314 := row_kept_new hq180 hg292
        refine d1 10 h307 rfl rfl (op_appendF rfl 0 40 (z := .agg #[.int .i64 0, .int .i64 0, .slice none 0 0, .int .u64 0]) (size := 4) (bytes := 48) Try.underlying48 (by kernel_rfl) rfl rfl rfl hr306 rfl hk293 rfl (all_cons rfl (all_cons rfl (all_cons (row_one hr314) (all_cons rfl all_nil)))) (by first | omega | (simp only [List.length_nil, List.length_append, List.length_cons, List.length_take, List.length_drop]; omega)) (by first | omega | (simp only [List.length_nil, List.length_append, List.length_cons, List.length_take, List.length_drop]; omega)) (by omega)) ?_ ?_; clear h307
        ·
         rintro v310 w309 ⟨hr311, hwt313, hg312⟩
         have hr311' : w309.ownsRow 0 40 4 v310 ((L.take ((i).toNat) ++ [(EntT.mk c r u179 l ts)]).length) ((L.take ((i).toNat) ++ [(EntT.mk c r u179 l ts)]).flatMap entE) := row_push (y := (EntT.mk c r u179 l ts)) hr311 rfl rfl; clear hr311
         have hz315 := hg312.size
         have hB316 := fbU_row hB303 (show InS (S) w0.heap.size (subV u 0 ((i).toNat) 4) from fun qi hqi => hO.su qi ((cut_block hr305 ((i).toNat)) ▸ hqi)) hg312
         have hk317 := hk304.kept hg312 ((fun eq => ha14 ((cut_block hr305 ((i).toNat)) ▸ eq)))
         exact ⟨hB316, hk317⟩
        rintro v310 w309 a308 ⟨hr311, hwt313, hg312⟩ h308
        have hr311' : w309.ownsRow 0 40 4 v310 ((L.take ((i).toNat) ++ [(EntT.mk c r u179 l ts)]).length) ((L.take ((i).toNat) ++ [(EntT.mk c r u179 l ts)]).flatMap entE) := row_push (y := (EntT.mk c r u179 l ts)) hr311 rfl rfl; clear hr311
        have hz315 := hg312.size
        have hB316 := fbU_row hB303 (show InS (S) w0.heap.size (subV u 0 ((i).toNat) 4) from fun qi hqi => hO.su qi ((cut_block hr305 ((i).toNat)) ▸ hqi)) hg312
        have hk317 := hk304.kept hg312 ((fun eq => ha14 ((cut_block hr305 ((i).toNat)) ▸ eq)))
        refine dk0 11 (v := pt b 0) h308 rfl rfl ⟨hB316, hk317⟩ fun a318 h318 => ?_; clear h308
        refine dk0 12 (v := pt b 1) h318 rfl rfl ⟨hB316, hk317⟩ fun a319 h319 => ?_; clear h318
        have hk325 := hk62.below hb181
        have hk326 := hk325.kept hg292 (by simp)
        have hk327 := hk326.kept hg312 (own_neT hr306 hk326 (by decide))
        refine d1D 13 h319 rfl rfl (op_store1 rfl rfl rfl (row_one hr311') Try.sizeOf48 hk327 rfl) ?_ ?_; clear h319
        ·
         rintro _ w321 ⟨hk322, hz323, hg324⟩
         have hk322' : Blk w321 b 114 #[.bool true, v310, .map (some M)] := hk322; clear hk322
         have hz328 := hg324.size
         have hB329 := fbU_at hB316 hg324 (fun hlt => by rcases hO.sb with hq | hq; exact hq; omega)
         have hk330 := hk317.kept hg324 (by simp; omega)
         exact ⟨hB329, hk330⟩
        rintro _ w321 a320 ⟨hk322, hz323, hg324⟩ h320
        have hk322' : Blk w321 b 114 #[.bool true, v310, .map (some M)] := hk322; clear hk322
        have hz328 := hg324.size
        refine dr_done (by kernel_rfl) ?_
        refine co_then ?_
        refine dr_gen (fun x => But (S) w0 x ∧ Blk x N9 40 #[.int .i64 c, .int .i64 r, v, .int .u64 ts] ∧ Blk x b 114 #[.bool true, v310, .map (some M)]) (by kernel_rfl) (fun w329 hg330 => ?_) (fun w329 hg330 => ?_)
        ·
         have hz331 := hg330.size
         have hB332 := fbU_at hB316 hg324 (fun hlt => by rcases hO.sb with hq | hq; exact hq; omega)
         have hB333 := fbU_new hB332 hg330
         have hk334 := hk317.kept hg324 (by simp; omega)
         have hk335 := hk334.kept hg330 (by simp)
         have hk336 := hk322'.kept hg330 (by simp)
         exact ⟨hB333, hk335, hk336⟩
        have hz337 := hg330.size
        have hB338 := fbU_at hB316 hg324 (fun hlt => by rcases hO.sb with hq | hq; exact hq; omega)
        have hB339 := fbU_new hB338 hg330
        have hk340 := hk317.kept hg324 (by simp; omega)
        have hk341 := hk340.kept hg330 (by simp)
        have hk342 := hk322'.kept hg330 (by simp)
        refine dk0 0 (v := pt b 0) h320 rfl rfl ⟨hB339, hk341, hk342⟩ fun a343 h343 => ?_; clear h320
        refine dk0 1 (v := pt b 0) h343 rfl rfl ⟨hB339, hk341, hk342⟩ fun a344 h344 => ?_; clear h343
        refine dk0 2 (v := pt b 2) h344 rfl rfl ⟨hB339, hk341, hk342⟩ fun a345 h345 => ?_; clear h344
        refine dk 3 (v := .map (some M)) h345 rfl rfl ⟨hB339, hk341, hk342⟩ (fun x hx => (rn_load1 rfl rfl Try.isAgg112 (hx.2.2.cell rfl))) fun a346 h346 => ?_; clear h345
        refine dk 4 (v := .agg #[.int .i64 c, .int .i64 r, v, .int .u64 ts]) h346 rfl rfl ⟨hB339, hk341, hk342⟩ (fun x hx => (rn_loadN rfl rfl Try.underlying40 rfl (by kernel_rfl) hx.2.1.all)) fun a347 h347 => ?_; clear h346
        refine dk0 6 (v := .int .i64 i) h347 rfl rfl ⟨hB339, hk341, hk342⟩ fun a348 h348 => ?_; clear h347
        refine dk0 7 (v := .agg #[.int .i64 i]) h348 rfl rfl ⟨hB339, hk341, hk342⟩ fun a349 h349 => ?_; clear h348
        refine d1 5 h349 rfl rfl (op_call (args := #[.agg #[.int .i64 c, .int .i64 r, v, .int .u64 ts]]) (R := fun res xw => res = .agg #[.int .i64 c, .int .i64 r] ∧ Below w329.heap.size w329 xw) rfl rfl rfl (by kernel_rfl) (by kernel_rfl) (Try.call62 _ _) (lname_any c r v ts w329 ) (by rintro e x ⟨rfl, hb352⟩; exact ⟨_, rfl, ⟨rfl, hb352⟩⟩)) ?_ ?_; clear h349
        ·
         rintro _ w351 ⟨rfl, hb352⟩
         have hz353 := hb352.size
         have hB354 := fbU_call hB339 hb352
         have hk355 := hk341.below hb352
         have hk356 := hk342.below hb352
         exact ⟨hB354, hk355, hk356⟩
        rintro _ w351 a350 ⟨rfl, hb352⟩ h350
        have hz353 := hb352.size
        have hB354 := fbU_call hB339 hb352
        have hk355 := hk341.below hb352
        have hk356 := hk342.below hb352
        have hM362 := hf37.kept hg49 (by simp)
        have hM363 := hM362.kept (below_grown hb181) (by simp)
        have hM364 := hM363.kept hg292 (by simp)
        have hM365 := hM364.kept hg312 (hM364.row hr306)
        have hM366 := hM365.kept hg324 (by simp; omega)
        have hM367 := hM366.kept hg330 (by simp)
        have hM368 := hM367.kept (below_grown hb352) (by simp)
        refine d1D 8 h350 rfl rfl (op_updateO (a := (c, r)) (v := i) nm_kl rfl rfl rfl rfl Try.underlying112 hM368) ?_ ?_; clear h350
        ·
         rintro _ w358 ⟨hm359, hz360, hg361⟩
         have hz369 := hg361.size
         have hl370 := hm359.lt
         have hB371 := fbU_at hB354 hg361 (fun hlt => by rcases hO.sM with hq | hq; exact hq; omega)
         have hk372 := hk355.kept hg361 (by simp; omega)
         have hk373 := hk356.kept hg361 (by simp; omega)
         exact ⟨hB371, hk372, hk373⟩
        rintro _ w358 a357 ⟨hm359, hz360, hg361⟩ h357
        have hz369 := hg361.size
        have hl370 := hm359.lt
        refine dr_done (by kernel_rfl) ?_
        refine co_ret0n h357 rfl ?_
        have hr371 := row_kept_row hr314 hr306 hg312 (by decide)
        have hr372 := row_kept_at hr371 hg324 (own_neT hr371 hk327 (by decide))
        have hr373 := row_kept_new hr372 hg330
        have hr374 := row_kept_new hr373 (below_grown hb352)
        have hr375 := row_kept_at hr374 hg361 (hM368.row hr374)
        have hE376 := hf36.new hg49
        have hE377 := hE376.new (below_grown hb181)
        have hE378 := hE377.new hg292
        have hE379 := hE378.row hr306 (by decide) hg312
        have hE380 := hE379.blk hk327 (by decide) hg324
        have hE381 := hE380.new hg330
        have hE382 := hE381.new (below_grown hb352)
        have hE383 := hE382.map hM368 hg361
        have hr384 := row_kept_at hr311' hg324 (own_neT hr311' hk327 (by decide))
        have hr385 := row_kept_new hr384 hg330
        have hr386 := row_kept_new hr385 (below_grown hb352)
        have hr387 := row_kept_at hr386 hg361 (hM368.row hr386)
        have hk388 := hk356.kept hg361 (by simp; omega)
        have hB389 := fbU_at hB354 hg361 (fun hlt => by rcases hO.sM with hq | hq; exact hq; omega)
        have hEK : EntK S w0.heap.size w358 (EntT.mk c r u179 l ts) := ⟨row_lows hr375 (Nat.zero_le _), InS.low hr375 (by omega), hlen, hen.1, hts.1, hts.2, hen.2.1, hen.2.2⟩
        have hEs := (EntsK.take hE383 i.toNat).snoc hEK
        have hlt : (L.take i.toNat).length = i.toNat := by rw [List.length_take]; omega
        have hdl : (L.drop i.toNat).length = L.length - i.toNat := List.length_drop
        have hfs := findN_snoc (A := L.take i.toNat) (e := (EntT.mk c r u179 l ts)) hfn
        exact ⟨v310, u179, rfl, ⟨hk388, ⟨_, hm359.eq ((by rw [delN_end hO.uq (by omega), hfs, hlt, Int.toNat_of_nonneg (by omega)]; rfl)) (Nat.le_refl _)⟩, (row_eq hr387 (by first | rfl | simp)), hEs, hO.sb, hO.sM, ((show InS (S) w0.heap.size (subV u 0 ((i).toNat) 4) from fun qi hqi => hO.su qi ((cut_block hr305 ((i).toNat)) ▸ hqi)).went hwt313 (by omega)), ((hO.uq.take _).snoc hfn), (by rw [List.length_append, hlt]; simp; omega)⟩, trivial, hB389⟩
    ·
     refine dr_op (i := 8) h61 rfl rfl rfl rfl (op_call (args := #[.agg #[.int .i64 c, .int .i64 r, v, .int .u64 ts]]) (R := fun res xw => ∃ u : Value, res = .agg #[.int .i64 c, .int .i64 r, u, .int .u64 ts] ∧ xw.ownsRow w48.heap.size 74 3 u l.length (l.flatMap opE) ∧ Below w48.heap.size w48 xw) rfl rfl rfl (by kernel_rfl) (by kernel_rfl) (Try.call69 _ _) (freshEntry_any c r v l ts w48 (sl_butN hs hB54 hvS) (by first | omega | (simp; done) | (simp; omega))) (by rintro e x ⟨u, rfl, hq393, hb394⟩; exact ⟨_, rfl, ⟨u, rfl, hq393, hb394⟩⟩)) ?_ ?_; clear h61
     ·
      rintro _ w391 ⟨u392, rfl, hq393, hb394⟩
      have hz395 := hb394.size
      have hl396 := sl_len (row_sl hq393 opE_len)
      have hB397 := fbU_call hB54 hb394
      have hk398 := hk55.below hb394
      exact ⟨hB397, hk398⟩
     rintro _ w391 a390 ⟨u392, rfl, hq393, hb394⟩ h390
     have hz395 := hb394.size
     have hl396 := sl_len (row_sl hq393 opE_len)
     have hB397 := fbU_call hB54 hb394
     have hk398 := hk55.below hb394
     refine dr_many [4, 9] (by kernel_rfl) (by simp) ⟨?_, ?_, trivial⟩
     ·
      have hk399 := hk39.kept hg49 (by simp)
      have hk400 := hk399.below hb394
      refine dr_opVal (i := 4) (v := u) h390 rfl rfl rfl rfl (by kernel_rfl) rfl (rn_load1 rfl rfl Try.isAgg48 (hk400.cell rfl)) ⟨hB397, hk398⟩ (fun a401 h401 => ?_); clear h390
      refine dr_many [6, 9] (by kernel_rfl) (by simp) ⟨?_, ?_, trivial⟩
      ·
       have hr402 := row_kept_new hf35 hg49
       have hr403 := row_kept_new hr402 (below_grown hb394)
       have hr404 := row_cut hr403 entE_len ((i).toNat) (by omega) (.inr trivial)
       refine dr_opVal (i := 6) (v := subV u 0 ((i).toNat) 4) h401 rfl rfl rfl rfl (by kernel_rfl) rfl (rn_sliceTo rfl rfl rfl Try.underlying48 Try.sizeOf40 (row_sl hr403 entE_len) (by omega) (by omega)) ⟨hB397, hk398⟩ (fun a405 h405 => ?_); clear h401
       refine d1 9 h405 rfl rfl (op_new (v := fun N => .slice (some ⟨N, 0, none⟩) 1 1) (T := 40) (cs := #[.int .i64 c, .int .i64 r, u392, .int .u64 ts]) (by kernel_rfl) (by kernel_rfl) (by kernel_rfl)) ?_ ?_; clear h405
       ·
        rintro _ w407 ⟨N408, rfl, hN411, hz412, hk410, hg409⟩
        have ha413 := row_fresh hr403 hN411
        have hu414 := row_under hr403 hN411
        have ha415 := row_fresh hq393 hN411
        have hu416 := row_under hq393 hN411
        have ha417 := row_fresh hr404 hN411
        have hu418 := row_under hr404 hN411
        have hz419 := hg409.size
        have hB420 := fbU_new hB397 hg409
        have hk421 := hk398.kept hg409 (by simp)
        exact ⟨hB420, hk421⟩
       rintro _ w407 a406 ⟨N408, rfl, hN411, hz412, hk410, hg409⟩ h406
       have ha413 := row_fresh hr403 hN411
       have hu414 := row_under hr403 hN411
       have ha415 := row_fresh hq393 hN411
       have hu416 := row_under hq393 hN411
       have ha417 := row_fresh hr404 hN411
       have hu418 := row_under hr404 hN411
       have hz419 := hg409.size
       try dsimp only at h406
       have hB420 := fbU_new hB397 hg409
       have hk421 := hk398.kept hg409 (by simp)
       have hr428 := row_kept_new hr404 hg409
       have hr429 := row_kept_new hq393 hg409
       refine d1 10 h406 rfl rfl (op_appendF rfl 0 40 (z := .agg #[.int .i64 0, .int .i64 0, .slice none 0 0, .int .u64 0]) (size := 4) (bytes := 48) Try.underlying48 (by kernel_rfl) rfl rfl rfl hr428 rfl hk410 rfl (all_cons rfl (all_cons rfl (all_cons (row_one hr429) (all_cons rfl all_nil)))) (by first | omega | (simp only [List.length_nil, List.length_append, List.length_cons, List.length_take, List.length_drop]; omega)) (by first | omega | (simp only [List.length_nil, List.length_append, List.length_cons, List.length_take, List.length_drop]; omega)) (by omega)) ?_ ?_; clear h406
       ·
        rintro v424 w423 ⟨hr425, hwt427, hg426⟩
        have hr425' : w423.ownsRow 0 40 4 v424 ((L.take ((i).toNat) ++ [(EntT.mk c r u392 l ts)]).length) ((L.take ((i).toNat) ++ [(EntT.mk c r u392 l ts)]).flatMap entE) := row_push (y := (EntT.mk c r u392 l ts)) hr425 rfl rfl; clear hr425
        have hz430 := hg426.size
        have hB431 := fbU_row hB420 (show InS (S) w0.heap.size (subV u 0 ((i).toNat) 4) from fun qi hqi => hO.su qi ((cut_block hr403 ((i).toNat)) ▸ hqi)) hg426
        have hk432 := hk421.kept hg426 ((fun eq => ha14 ((cut_block hr403 ((i).toNat)) ▸ eq)))
        exact ⟨hB431, hk432⟩
       rintro v424 w423 a422 ⟨hr425, hwt427, hg426⟩ h422
       have hr425' : w423.ownsRow 0 40 4 v424 ((L.take ((i).toNat) ++ [(EntT.mk c r u392 l ts)]).length) ((L.take ((i).toNat) ++ [(EntT.mk c r u392 l ts)]).flatMap entE) := row_push (y := (EntT.mk c r u392 l ts)) hr425 rfl rfl; clear hr425
       have hz430 := hg426.size
       have hB431 := fbU_row hB420 (show InS (S) w0.heap.size (subV u 0 ((i).toNat) 4) from fun qi hqi => hO.su qi ((cut_block hr403 ((i).toNat)) ▸ hqi)) hg426
       have hk432 := hk421.kept hg426 ((fun eq => ha14 ((cut_block hr403 ((i).toNat)) ▸ eq)))
       refine dk0 11 (v := pt b 0) h422 rfl rfl ⟨hB431, hk432⟩ fun a433 h433 => ?_; clear h422
       refine dk0 12 (v := pt b 1) h433 rfl rfl ⟨hB431, hk432⟩ fun a434 h434 => ?_; clear h433
       have hk440 := hk400.kept hg409 (by simp)
       have hk441 := hk440.kept hg426 (own_neT hr428 hk440 (by decide))
       refine d1D 13 h434 rfl rfl (op_store1 rfl rfl rfl (row_one hr425') Try.sizeOf48 hk441 rfl) ?_ ?_; clear h434
       ·
        rintro _ w436 ⟨hk437, hz438, hg439⟩
        have hk437' : Blk w436 b 114 #[.bool true, v424, .map (some M)] := hk437; clear hk437
        have hz442 := hg439.size
        have hB443 := fbU_at hB431 hg439 (fun hlt => by rcases hO.sb with hq | hq; exact hq; omega)
        have hk444 := hk432.kept hg439 (by simp; omega)
        exact ⟨hB443, hk444⟩
       rintro _ w436 a435 ⟨hk437, hz438, hg439⟩ h435
       have hk437' : Blk w436 b 114 #[.bool true, v424, .map (some M)] := hk437; clear hk437
       have hz442 := hg439.size
       refine dr_done (by kernel_rfl) ?_
       refine co_then ?_
       refine dr_gen (fun x => But (S) w0 x ∧ Blk x N9 40 #[.int .i64 c, .int .i64 r, v, .int .u64 ts] ∧ Blk x b 114 #[.bool true, v424, .map (some M)]) (by kernel_rfl) (fun w443 hg444 => ?_) (fun w443 hg444 => ?_)
       ·
        have hz445 := hg444.size
        have hB446 := fbU_at hB431 hg439 (fun hlt => by rcases hO.sb with hq | hq; exact hq; omega)
        have hB447 := fbU_new hB446 hg444
        have hk448 := hk432.kept hg439 (by simp; omega)
        have hk449 := hk448.kept hg444 (by simp)
        have hk450 := hk437'.kept hg444 (by simp)
        exact ⟨hB447, hk449, hk450⟩
       have hz451 := hg444.size
       have hB452 := fbU_at hB431 hg439 (fun hlt => by rcases hO.sb with hq | hq; exact hq; omega)
       have hB453 := fbU_new hB452 hg444
       have hk454 := hk432.kept hg439 (by simp; omega)
       have hk455 := hk454.kept hg444 (by simp)
       have hk456 := hk437'.kept hg444 (by simp)
       refine dk0 0 (v := pt b 0) h435 rfl rfl ⟨hB453, hk455, hk456⟩ fun a457 h457 => ?_; clear h435
       refine dk0 1 (v := pt b 0) h457 rfl rfl ⟨hB453, hk455, hk456⟩ fun a458 h458 => ?_; clear h457
       refine dk0 2 (v := pt b 2) h458 rfl rfl ⟨hB453, hk455, hk456⟩ fun a459 h459 => ?_; clear h458
       refine dk 3 (v := .map (some M)) h459 rfl rfl ⟨hB453, hk455, hk456⟩ (fun x hx => (rn_load1 rfl rfl Try.isAgg112 (hx.2.2.cell rfl))) fun a460 h460 => ?_; clear h459
       refine dk 4 (v := .agg #[.int .i64 c, .int .i64 r, v, .int .u64 ts]) h460 rfl rfl ⟨hB453, hk455, hk456⟩ (fun x hx => (rn_loadN rfl rfl Try.underlying40 rfl (by kernel_rfl) hx.2.1.all)) fun a461 h461 => ?_; clear h460
       refine dk0 6 (v := .int .i64 i) h461 rfl rfl ⟨hB453, hk455, hk456⟩ fun a462 h462 => ?_; clear h461
       refine dk0 7 (v := .agg #[.int .i64 i]) h462 rfl rfl ⟨hB453, hk455, hk456⟩ fun a463 h463 => ?_; clear h462
       refine d1 5 h463 rfl rfl (op_call (args := #[.agg #[.int .i64 c, .int .i64 r, v, .int .u64 ts]]) (R := fun res xw => res = .agg #[.int .i64 c, .int .i64 r] ∧ Below w443.heap.size w443 xw) rfl rfl rfl (by kernel_rfl) (by kernel_rfl) (Try.call62 _ _) (lname_any c r v ts w443 ) (by rintro e x ⟨rfl, hb466⟩; exact ⟨_, rfl, ⟨rfl, hb466⟩⟩)) ?_ ?_; clear h463
       ·
        rintro _ w465 ⟨rfl, hb466⟩
        have hz467 := hb466.size
        have hB468 := fbU_call hB453 hb466
        have hk469 := hk455.below hb466
        have hk470 := hk456.below hb466
        exact ⟨hB468, hk469, hk470⟩
       rintro _ w465 a464 ⟨rfl, hb466⟩ h464
       have hz467 := hb466.size
       have hB468 := fbU_call hB453 hb466
       have hk469 := hk455.below hb466
       have hk470 := hk456.below hb466
       have hM476 := hf37.kept hg49 (by simp)
       have hM477 := hM476.kept (below_grown hb394) (by simp)
       have hM478 := hM477.kept hg409 (by simp)
       have hM479 := hM478.kept hg426 (hM478.row hr428)
       have hM480 := hM479.kept hg439 (by simp; omega)
       have hM481 := hM480.kept hg444 (by simp)
       have hM482 := hM481.kept (below_grown hb466) (by simp)
       refine d1D 8 h464 rfl rfl (op_updateO (a := (c, r)) (v := i) nm_kl rfl rfl rfl rfl Try.underlying112 hM482) ?_ ?_; clear h464
       ·
        rintro _ w472 ⟨hm473, hz474, hg475⟩
        have hz483 := hg475.size
        have hl484 := hm473.lt
        have hB485 := fbU_at hB468 hg475 (fun hlt => by rcases hO.sM with hq | hq; exact hq; omega)
        have hk486 := hk469.kept hg475 (by simp; omega)
        have hk487 := hk470.kept hg475 (by simp; omega)
        exact ⟨hB485, hk486, hk487⟩
       rintro _ w472 a471 ⟨hm473, hz474, hg475⟩ h471
       have hz483 := hg475.size
       have hl484 := hm473.lt
       refine dr_done (by kernel_rfl) ?_
       refine co_ret0n h471 rfl ?_
       have hr485 := row_kept_row hr429 hr428 hg426 (by decide)
       have hr486 := row_kept_at hr485 hg439 (own_neT hr485 hk441 (by decide))
       have hr487 := row_kept_new hr486 hg444
       have hr488 := row_kept_new hr487 (below_grown hb466)
       have hr489 := row_kept_at hr488 hg475 (hM482.row hr488)
       have hE490 := hf36.new hg49
       have hE491 := hE490.new (below_grown hb394)
       have hE492 := hE491.new hg409
       have hE493 := hE492.row hr428 (by decide) hg426
       have hE494 := hE493.blk hk441 (by decide) hg439
       have hE495 := hE494.new hg444
       have hE496 := hE495.new (below_grown hb466)
       have hE497 := hE496.map hM482 hg475
       have hr498 := row_kept_at hr425' hg439 (own_neT hr425' hk441 (by decide))
       have hr499 := row_kept_new hr498 hg444
       have hr500 := row_kept_new hr499 (below_grown hb466)
       have hr501 := row_kept_at hr500 hg475 (hM482.row hr500)
       have hk502 := hk470.kept hg475 (by simp; omega)
       have hB503 := fbU_at hB468 hg475 (fun hlt => by rcases hO.sM with hq | hq; exact hq; omega)
       have hEK : EntK S w0.heap.size w472 (EntT.mk c r u392 l ts) := ⟨row_lows hr489 (Nat.zero_le _), InS.low hr489 (by omega), hlen, hen.1, hts.1, hts.2, hen.2.1, hen.2.2⟩
       have hEs := (EntsK.take hE497 i.toNat).snoc hEK
       have hlt : (L.take i.toNat).length = i.toNat := by rw [List.length_take]; omega
       have hdl : (L.drop i.toNat).length = L.length - i.toNat := List.length_drop
       have hfs := findN_snoc (A := L.take i.toNat) (e := (EntT.mk c r u392 l ts)) hfn
       exact ⟨v424, u392, rfl, ⟨hk502, ⟨_, hm473.eq ((by rw [delN_end hO.uq (by omega), hfs, hlt, Int.toNat_of_nonneg (by omega)]; rfl)) (Nat.le_refl _)⟩, (row_eq hr501 (by first | rfl | simp)), hEs, hO.sb, hO.sM, ((show InS (S) w0.heap.size (subV u 0 ((i).toNat) 4) from fun qi hqi => hO.su qi ((cut_block hr403 ((i).toNat)) ▸ hqi)).went hwt427 (by omega)), ((hO.uq.take _).snoc hfn), (by rw [List.length_append, hlt]; simp; omega)⟩, trivial, hB503⟩
      ·
       refine dr_op (i := 9) h401 rfl rfl rfl rfl (op_new (v := fun N => .slice (some ⟨N, 0, none⟩) 1 1) (T := 40) (cs := #[.int .i64 c, .int .i64 r, u392, .int .u64 ts]) (by kernel_rfl) (by kernel_rfl) (by kernel_rfl)) ?_ ?_; clear h401
       ·
        rintro _ w505 ⟨N506, rfl, hN509, hz510, hk508, hg507⟩
        have hr512 := row_kept_new hf35 hg49
        have hr513 := row_kept_new hr512 (below_grown hb394)
        have ha511 := row_fresh hr513 hN509
        have hu514 := row_under hr513 hN509
        have ha515 := row_fresh hq393 hN509
        have hu516 := row_under hq393 hN509
        have hz517 := hg507.size
        have hB518 := fbU_new hB397 hg507
        have hk519 := hk398.kept hg507 (by simp)
        exact ⟨hB518, hk519⟩
       rintro _ w505 a504 ⟨N506, rfl, hN509, hz510, hk508, hg507⟩ h504
       have hr512 := row_kept_new hf35 hg49
       have hr513 := row_kept_new hr512 (below_grown hb394)
       have ha511 := row_fresh hr513 hN509
       have hu514 := row_under hr513 hN509
       have ha515 := row_fresh hq393 hN509
       have hu516 := row_under hq393 hN509
       have hz517 := hg507.size
       try dsimp only at h504
       have hB518 := fbU_new hB397 hg507
       have hk519 := hk398.kept hg507 (by simp)
       refine dr_many [6] (by kernel_rfl) (by simp) ⟨?_, trivial⟩
       ·
        have hr520 := row_kept_new hr513 hg507
        have hr521 := row_cut hr520 entE_len ((i).toNat) (by omega) (.inr trivial)
        refine dr_opVal (i := 6) (v := subV u 0 ((i).toNat) 4) h504 rfl rfl rfl rfl (by kernel_rfl) rfl (rn_sliceTo rfl rfl rfl Try.underlying48 Try.sizeOf40 (row_sl hr520 entE_len) (by omega) (by omega)) ⟨hB518, hk519⟩ (fun a522 h522 => ?_); clear h504
        have hr529 := row_kept_new hq393 hg507
        refine d1 10 h522 rfl rfl (op_appendF rfl 0 40 (z := .agg #[.int .i64 0, .int .i64 0, .slice none 0 0, .int .u64 0]) (size := 4) (bytes := 48) Try.underlying48 (by kernel_rfl) rfl rfl rfl hr521 rfl hk508 rfl (all_cons rfl (all_cons rfl (all_cons (row_one hr529) (all_cons rfl all_nil)))) (by first | omega | (simp only [List.length_nil, List.length_append, List.length_cons, List.length_take, List.length_drop]; omega)) (by first | omega | (simp only [List.length_nil, List.length_append, List.length_cons, List.length_take, List.length_drop]; omega)) (by omega)) ?_ ?_; clear h522
        ·
         rintro v525 w524 ⟨hr526, hwt528, hg527⟩
         have hr526' : w524.ownsRow 0 40 4 v525 ((L.take ((i).toNat) ++ [(EntT.mk c r u392 l ts)]).length) ((L.take ((i).toNat) ++ [(EntT.mk c r u392 l ts)]).flatMap entE) := row_push (y := (EntT.mk c r u392 l ts)) hr526 rfl rfl; clear hr526
         have hz530 := hg527.size
         have hB531 := fbU_row hB518 (show InS (S) w0.heap.size (subV u 0 ((i).toNat) 4) from fun qi hqi => hO.su qi ((cut_block hr520 ((i).toNat)) ▸ hqi)) hg527
         have hk532 := hk519.kept hg527 ((fun eq => ha14 ((cut_block hr520 ((i).toNat)) ▸ eq)))
         exact ⟨hB531, hk532⟩
        rintro v525 w524 a523 ⟨hr526, hwt528, hg527⟩ h523
        have hr526' : w524.ownsRow 0 40 4 v525 ((L.take ((i).toNat) ++ [(EntT.mk c r u392 l ts)]).length) ((L.take ((i).toNat) ++ [(EntT.mk c r u392 l ts)]).flatMap entE) := row_push (y := (EntT.mk c r u392 l ts)) hr526 rfl rfl; clear hr526
        have hz530 := hg527.size
        have hB531 := fbU_row hB518 (show InS (S) w0.heap.size (subV u 0 ((i).toNat) 4) from fun qi hqi => hO.su qi ((cut_block hr520 ((i).toNat)) ▸ hqi)) hg527
        have hk532 := hk519.kept hg527 ((fun eq => ha14 ((cut_block hr520 ((i).toNat)) ▸ eq)))
        refine dk0 11 (v := pt b 0) h523 rfl rfl ⟨hB531, hk532⟩ fun a533 h533 => ?_; clear h523
        refine dk0 12 (v := pt b 1) h533 rfl rfl ⟨hB531, hk532⟩ fun a534 h534 => ?_; clear h533
        have hk540 := hk400.kept hg507 (by simp)
        have hk541 := hk540.kept hg527 (own_neT hr521 hk540 (by decide))
        refine d1D 13 h534 rfl rfl (op_store1 rfl rfl rfl (row_one hr526') Try.sizeOf48 hk541 rfl) ?_ ?_; clear h534
        ·
         rintro _ w536 ⟨hk537, hz538, hg539⟩
         have hk537' : Blk w536 b 114 #[.bool true, v525, .map (some M)] := hk537; clear hk537
         have hz542 := hg539.size
         have hB543 := fbU_at hB531 hg539 (fun hlt => by rcases hO.sb with hq | hq; exact hq; omega)
         have hk544 := hk532.kept hg539 (by simp; omega)
         exact ⟨hB543, hk544⟩
        rintro _ w536 a535 ⟨hk537, hz538, hg539⟩ h535
        have hk537' : Blk w536 b 114 #[.bool true, v525, .map (some M)] := hk537; clear hk537
        have hz542 := hg539.size
        refine dr_done (by kernel_rfl) ?_
        refine co_then ?_
        refine dr_gen (fun x => But (S) w0 x ∧ Blk x N9 40 #[.int .i64 c, .int .i64 r, v, .int .u64 ts] ∧ Blk x b 114 #[.bool true, v525, .map (some M)]) (by kernel_rfl) (fun w543 hg544 => ?_) (fun w543 hg544 => ?_)
        ·
         have hz545 := hg544.size
         have hB546 := fbU_at hB531 hg539 (fun hlt => by rcases hO.sb with hq | hq; exact hq; omega)
         have hB547 := fbU_new hB546 hg544
         have hk548 := hk532.kept hg539 (by simp; omega)
         have hk549 := hk548.kept hg544 (by simp)
         have hk550 := hk537'.kept hg544 (by simp)
         exact ⟨hB547, hk549, hk550⟩
        have hz551 := hg544.size
        have hB552 := fbU_at hB531 hg539 (fun hlt => by rcases hO.sb with hq | hq; exact hq; omega)
        have hB553 := fbU_new hB552 hg544
        have hk554 := hk532.kept hg539 (by simp; omega)
        have hk555 := hk554.kept hg544 (by simp)
        have hk556 := hk537'.kept hg544 (by simp)
        refine dk0 0 (v := pt b 0) h535 rfl rfl ⟨hB553, hk555, hk556⟩ fun a557 h557 => ?_; clear h535
        refine dk0 1 (v := pt b 0) h557 rfl rfl ⟨hB553, hk555, hk556⟩ fun a558 h558 => ?_; clear h557
        refine dk0 2 (v := pt b 2) h558 rfl rfl ⟨hB553, hk555, hk556⟩ fun a559 h559 => ?_; clear h558
        refine dk 3 (v := .map (some M)) h559 rfl rfl ⟨hB553, hk555, hk556⟩ (fun x hx => (rn_load1 rfl rfl Try.isAgg112 (hx.2.2.cell rfl))) fun a560 h560 => ?_; clear h559
        refine dk 4 (v := .agg #[.int .i64 c, .int .i64 r, v, .int .u64 ts]) h560 rfl rfl ⟨hB553, hk555, hk556⟩ (fun x hx => (rn_loadN rfl rfl Try.underlying40 rfl (by kernel_rfl) hx.2.1.all)) fun a561 h561 => ?_; clear h560
        refine dk0 6 (v := .int .i64 i) h561 rfl rfl ⟨hB553, hk555, hk556⟩ fun a562 h562 => ?_; clear h561
        refine dk0 7 (v := .agg #[.int .i64 i]) h562 rfl rfl ⟨hB553, hk555, hk556⟩ fun a563 h563 => ?_; clear h562
        refine d1 5 h563 rfl rfl (op_call (args := #[.agg #[.int .i64 c, .int .i64 r, v, .int .u64 ts]]) (R := fun res xw => res = .agg #[.int .i64 c, .int .i64 r] ∧ Below w543.heap.size w543 xw) rfl rfl rfl (by kernel_rfl) (by kernel_rfl) (Try.call62 _ _) (lname_any c r v ts w543 ) (by rintro e x ⟨rfl, hb566⟩; exact ⟨_, rfl, ⟨rfl, hb566⟩⟩)) ?_ ?_; clear h563
        ·
         rintro _ w565 ⟨rfl, hb566⟩
         have hz567 := hb566.size
         have hB568 := fbU_call hB553 hb566
         have hk569 := hk555.below hb566
         have hk570 := hk556.below hb566
         exact ⟨hB568, hk569, hk570⟩
        rintro _ w565 a564 ⟨rfl, hb566⟩ h564
        have hz567 := hb566.size
        have hB568 := fbU_call hB553 hb566
        have hk569 := hk555.below hb566
        have hk570 := hk556.below hb566
        have hM576 := hf37.kept hg49 (by simp)
        have hM577 := hM576.kept (below_grown hb394) (by simp)
        have hM578 := hM577.kept hg507 (by simp)
        have hM579 := hM578.kept hg527 (hM578.row hr521)
        have hM580 := hM579.kept hg539 (by simp; omega)
        have hM581 := hM580.kept hg544 (by simp)
        have hM582 := hM581.kept (below_grown hb566) (by simp)
        refine d1D 8 h564 rfl rfl (op_updateO (a := (c, r)) (v := i) nm_kl rfl rfl rfl rfl Try.underlying112 hM582) ?_ ?_; clear h564
        ·
         rintro _ w572 ⟨hm573, hz574, hg575⟩
         have hz583 := hg575.size
         have hl584 := hm573.lt
         have hB585 := fbU_at hB568 hg575 (fun hlt => by rcases hO.sM with hq | hq; exact hq; omega)
         have hk586 := hk569.kept hg575 (by simp; omega)
         have hk587 := hk570.kept hg575 (by simp; omega)
         exact ⟨hB585, hk586, hk587⟩
        rintro _ w572 a571 ⟨hm573, hz574, hg575⟩ h571
        have hz583 := hg575.size
        have hl584 := hm573.lt
        refine dr_done (by kernel_rfl) ?_
        refine co_ret0n h571 rfl ?_
        have hr585 := row_kept_row hr529 hr521 hg527 (by decide)
        have hr586 := row_kept_at hr585 hg539 (own_neT hr585 hk541 (by decide))
        have hr587 := row_kept_new hr586 hg544
        have hr588 := row_kept_new hr587 (below_grown hb566)
        have hr589 := row_kept_at hr588 hg575 (hM582.row hr588)
        have hE590 := hf36.new hg49
        have hE591 := hE590.new (below_grown hb394)
        have hE592 := hE591.new hg507
        have hE593 := hE592.row hr521 (by decide) hg527
        have hE594 := hE593.blk hk541 (by decide) hg539
        have hE595 := hE594.new hg544
        have hE596 := hE595.new (below_grown hb566)
        have hE597 := hE596.map hM582 hg575
        have hr598 := row_kept_at hr526' hg539 (own_neT hr526' hk541 (by decide))
        have hr599 := row_kept_new hr598 hg544
        have hr600 := row_kept_new hr599 (below_grown hb566)
        have hr601 := row_kept_at hr600 hg575 (hM582.row hr600)
        have hk602 := hk570.kept hg575 (by simp; omega)
        have hB603 := fbU_at hB568 hg575 (fun hlt => by rcases hO.sM with hq | hq; exact hq; omega)
        have hEK : EntK S w0.heap.size w572 (EntT.mk c r u392 l ts) := ⟨row_lows hr589 (Nat.zero_le _), InS.low hr589 (by omega), hlen, hen.1, hts.1, hts.2, hen.2.1, hen.2.2⟩
        have hEs := (EntsK.take hE597 i.toNat).snoc hEK
        have hlt : (L.take i.toNat).length = i.toNat := by rw [List.length_take]; omega
        have hdl : (L.drop i.toNat).length = L.length - i.toNat := List.length_drop
        have hfs := findN_snoc (A := L.take i.toNat) (e := (EntT.mk c r u392 l ts)) hfn
        exact ⟨v525, u392, rfl, ⟨hk602, ⟨_, hm573.eq ((by rw [delN_end hO.uq (by omega), hfs, hlt, Int.toNat_of_nonneg (by omega)]; rfl)) (Nat.le_refl _)⟩, (row_eq hr601 (by first | rfl | simp)), hEs, hO.sb, hO.sM, ((show InS (S) w0.heap.size (subV u 0 ((i).toNat) 4) from fun qi hqi => hO.su qi ((cut_block hr520 ((i).toNat)) ▸ hqi)).went hwt528 (by omega)), ((hO.uq.take _).snoc hfn), (by rw [List.length_append, hlt]; simp; omega)⟩, trivial, hB603⟩
     ·
      refine dr_op (i := 9) h390 rfl rfl rfl rfl (op_new (v := fun N => .slice (some ⟨N, 0, none⟩) 1 1) (T := 40) (cs := #[.int .i64 c, .int .i64 r, u392, .int .u64 ts]) (by kernel_rfl) (by kernel_rfl) (by kernel_rfl)) ?_ ?_; clear h390
      ·
       rintro _ w605 ⟨N606, rfl, hN609, hz610, hk608, hg607⟩
       have hr612 := row_kept_new hf35 hg49
       have hr613 := row_kept_new hr612 (below_grown hb394)
       have ha611 := row_fresh hr613 hN609
       have hu614 := row_under hr613 hN609
       have ha615 := row_fresh hq393 hN609
       have hu616 := row_under hq393 hN609
       have hz617 := hg607.size
       have hB618 := fbU_new hB397 hg607
       have hk619 := hk398.kept hg607 (by simp)
       exact ⟨hB618, hk619⟩
      rintro _ w605 a604 ⟨N606, rfl, hN609, hz610, hk608, hg607⟩ h604
      have hr612 := row_kept_new hf35 hg49
      have hr613 := row_kept_new hr612 (below_grown hb394)
      have ha611 := row_fresh hr613 hN609
      have hu614 := row_under hr613 hN609
      have ha615 := row_fresh hq393 hN609
      have hu616 := row_under hq393 hN609
      have hz617 := hg607.size
      try dsimp only at h604
      have hB618 := fbU_new hB397 hg607
      have hk619 := hk398.kept hg607 (by simp)
      refine dr_many [4] (by kernel_rfl) (by simp) ⟨?_, trivial⟩
      ·
       have hk620 := hk39.kept hg49 (by simp)
       have hk621 := hk620.below hb394
       have hk622 := hk621.kept hg607 (by simp)
       refine dr_opVal (i := 4) (v := u) h604 rfl rfl rfl rfl (by kernel_rfl) rfl (rn_load1 rfl rfl Try.isAgg48 (hk622.cell rfl)) ⟨hB618, hk619⟩ (fun a623 h623 => ?_); clear h604
       refine dr_many [6] (by kernel_rfl) (by simp) ⟨?_, trivial⟩
       ·
        have hr624 := row_kept_new hr613 hg607
        have hr625 := row_cut hr624 entE_len ((i).toNat) (by omega) (.inr trivial)
        refine dr_opVal (i := 6) (v := subV u 0 ((i).toNat) 4) h623 rfl rfl rfl rfl (by kernel_rfl) rfl (rn_sliceTo rfl rfl rfl Try.underlying48 Try.sizeOf40 (row_sl hr624 entE_len) (by omega) (by omega)) ⟨hB618, hk619⟩ (fun a626 h626 => ?_); clear h623
        have hr633 := row_kept_new hq393 hg607
        refine d1 10 h626 rfl rfl (op_appendF rfl 0 40 (z := .agg #[.int .i64 0, .int .i64 0, .slice none 0 0, .int .u64 0]) (size := 4) (bytes := 48) Try.underlying48 (by kernel_rfl) rfl rfl rfl hr625 rfl hk608 rfl (all_cons rfl (all_cons rfl (all_cons (row_one hr633) (all_cons rfl all_nil)))) (by first | omega | (simp only [List.length_nil, List.length_append, List.length_cons, List.length_take, List.length_drop]; omega)) (by first | omega | (simp only [List.length_nil, List.length_append, List.length_cons, List.length_take, List.length_drop]; omega)) (by omega)) ?_ ?_; clear h626
        ·
         rintro v629 w628 ⟨hr630, hwt632, hg631⟩
         have hr630' : w628.ownsRow 0 40 4 v629 ((L.take ((i).toNat) ++ [(EntT.mk c r u392 l ts)]).length) ((L.take ((i).toNat) ++ [(EntT.mk c r u392 l ts)]).flatMap entE) := row_push (y := (EntT.mk c r u392 l ts)) hr630 rfl rfl; clear hr630
         have hz634 := hg631.size
         have hB635 := fbU_row hB618 (show InS (S) w0.heap.size (subV u 0 ((i).toNat) 4) from fun qi hqi => hO.su qi ((cut_block hr624 ((i).toNat)) ▸ hqi)) hg631
         have hk636 := hk619.kept hg631 ((fun eq => ha14 ((cut_block hr624 ((i).toNat)) ▸ eq)))
         exact ⟨hB635, hk636⟩
        rintro v629 w628 a627 ⟨hr630, hwt632, hg631⟩ h627
        have hr630' : w628.ownsRow 0 40 4 v629 ((L.take ((i).toNat) ++ [(EntT.mk c r u392 l ts)]).length) ((L.take ((i).toNat) ++ [(EntT.mk c r u392 l ts)]).flatMap entE) := row_push (y := (EntT.mk c r u392 l ts)) hr630 rfl rfl; clear hr630
        have hz634 := hg631.size
        have hB635 := fbU_row hB618 (show InS (S) w0.heap.size (subV u 0 ((i).toNat) 4) from fun qi hqi => hO.su qi ((cut_block hr624 ((i).toNat)) ▸ hqi)) hg631
        have hk636 := hk619.kept hg631 ((fun eq => ha14 ((cut_block hr624 ((i).toNat)) ▸ eq)))
        refine dk0 11 (v := pt b 0) h627 rfl rfl ⟨hB635, hk636⟩ fun a637 h637 => ?_; clear h627
        refine dk0 12 (v := pt b 1) h637 rfl rfl ⟨hB635, hk636⟩ fun a638 h638 => ?_; clear h637
        have hk644 := hk622.kept hg631 (own_neT hr625 hk622 (by decide))
        refine d1D 13 h638 rfl rfl (op_store1 rfl rfl rfl (row_one hr630') Try.sizeOf48 hk644 rfl) ?_ ?_; clear h638
        ·
         rintro _ w640 ⟨hk641, hz642, hg643⟩
         have hk641' : Blk w640 b 114 #[.bool true, v629, .map (some M)] := hk641; clear hk641
         have hz645 := hg643.size
         have hB646 := fbU_at hB635 hg643 (fun hlt => by rcases hO.sb with hq | hq; exact hq; omega)
         have hk647 := hk636.kept hg643 (by simp; omega)
         exact ⟨hB646, hk647⟩
        rintro _ w640 a639 ⟨hk641, hz642, hg643⟩ h639
        have hk641' : Blk w640 b 114 #[.bool true, v629, .map (some M)] := hk641; clear hk641
        have hz645 := hg643.size
        refine dr_done (by kernel_rfl) ?_
        refine co_then ?_
        refine dr_gen (fun x => But (S) w0 x ∧ Blk x N9 40 #[.int .i64 c, .int .i64 r, v, .int .u64 ts] ∧ Blk x b 114 #[.bool true, v629, .map (some M)]) (by kernel_rfl) (fun w646 hg647 => ?_) (fun w646 hg647 => ?_)
        ·
         have hz648 := hg647.size
         have hB649 := fbU_at hB635 hg643 (fun hlt => by rcases hO.sb with hq | hq; exact hq; omega)
         have hB650 := fbU_new hB649 hg647
         have hk651 := hk636.kept hg643 (by simp; omega)
         have hk652 := hk651.kept hg647 (by simp)
         have hk653 := hk641'.kept hg647 (by simp)
         exact ⟨hB650, hk652, hk653⟩
        have hz654 := hg647.size
        have hB655 := fbU_at hB635 hg643 (fun hlt => by rcases hO.sb with hq | hq; exact hq; omega)
        have hB656 := fbU_new hB655 hg647
        have hk657 := hk636.kept hg643 (by simp; omega)
        have hk658 := hk657.kept hg647 (by simp)
        have hk659 := hk641'.kept hg647 (by simp)
        refine dk0 0 (v := pt b 0) h639 rfl rfl ⟨hB656, hk658, hk659⟩ fun a660 h660 => ?_; clear h639
        refine dk0 1 (v := pt b 0) h660 rfl rfl ⟨hB656, hk658, hk659⟩ fun a661 h661 => ?_; clear h660
        refine dk0 2 (v := pt b 2) h661 rfl rfl ⟨hB656, hk658, hk659⟩ fun a662 h662 => ?_; clear h661
        refine dk 3 (v := .map (some M)) h662 rfl rfl ⟨hB656, hk658, hk659⟩ (fun x hx => (rn_load1 rfl rfl Try.isAgg112 (hx.2.2.cell rfl))) fun a663 h663 => ?_; clear h662
        refine dk 4 (v := .agg #[.int .i64 c, .int .i64 r, v, .int .u64 ts]) h663 rfl rfl ⟨hB656, hk658, hk659⟩ (fun x hx => (rn_loadN rfl rfl Try.underlying40 rfl (by kernel_rfl) hx.2.1.all)) fun a664 h664 => ?_; clear h663
        refine dk0 6 (v := .int .i64 i) h664 rfl rfl ⟨hB656, hk658, hk659⟩ fun a665 h665 => ?_; clear h664
        refine dk0 7 (v := .agg #[.int .i64 i]) h665 rfl rfl ⟨hB656, hk658, hk659⟩ fun a666 h666 => ?_; clear h665
        refine d1 5 h666 rfl rfl (op_call (args := #[.agg #[.int .i64 c, .int .i64 r, v, .int .u64 ts]]) (R := fun res xw => res = .agg #[.int .i64 c, .int .i64 r] ∧ Below w646.heap.size w646 xw) rfl rfl rfl (by kernel_rfl) (by kernel_rfl) (Try.call62 _ _) (lname_any c r v ts w646 ) (by rintro e x ⟨rfl, hb669⟩; exact ⟨_, rfl, ⟨rfl, hb669⟩⟩)) ?_ ?_; clear h666
        ·
         rintro _ w668 ⟨rfl, hb669⟩
         have hz670 := hb669.size
         have hB671 := fbU_call hB656 hb669
         have hk672 := hk658.below hb669
         have hk673 := hk659.below hb669
         exact ⟨hB671, hk672, hk673⟩
        rintro _ w668 a667 ⟨rfl, hb669⟩ h667
        have hz670 := hb669.size
        have hB671 := fbU_call hB656 hb669
        have hk672 := hk658.below hb669
        have hk673 := hk659.below hb669
        have hM679 := hf37.kept hg49 (by simp)
        have hM680 := hM679.kept (below_grown hb394) (by simp)
        have hM681 := hM680.kept hg607 (by simp)
        have hM682 := hM681.kept hg631 (hM681.row hr625)
        have hM683 := hM682.kept hg643 (by simp; omega)
        have hM684 := hM683.kept hg647 (by simp)
        have hM685 := hM684.kept (below_grown hb669) (by simp)
        refine d1D 8 h667 rfl rfl (op_updateO (a := (c, r)) (v := i) nm_kl rfl rfl rfl rfl Try.underlying112 hM685) ?_ ?_; clear h667
        ·
         rintro _ w675 ⟨hm676, hz677, hg678⟩
         have hz686 := hg678.size
         have hl687 := hm676.lt
         have hB688 := fbU_at hB671 hg678 (fun hlt => by rcases hO.sM with hq | hq; exact hq; omega)
         have hk689 := hk672.kept hg678 (by simp; omega)
         have hk690 := hk673.kept hg678 (by simp; omega)
         exact ⟨hB688, hk689, hk690⟩
        rintro _ w675 a674 ⟨hm676, hz677, hg678⟩ h674
        have hz686 := hg678.size
        have hl687 := hm676.lt
        refine dr_done (by kernel_rfl) ?_
        refine co_ret0n h674 rfl ?_
        have hr688 := row_kept_row hr633 hr625 hg631 (by decide)
        have hr689 := row_kept_at hr688 hg643 (own_neT hr688 hk644 (by decide))
        have hr690 := row_kept_new hr689 hg647
        have hr691 := row_kept_new hr690 (below_grown hb669)
        have hr692 := row_kept_at hr691 hg678 (hM685.row hr691)
        have hE693 := hf36.new hg49
        have hE694 := hE693.new (below_grown hb394)
        have hE695 := hE694.new hg607
        have hE696 := hE695.row hr625 (by decide) hg631
        have hE697 := hE696.blk hk644 (by decide) hg643
        have hE698 := hE697.new hg647
        have hE699 := hE698.new (below_grown hb669)
        have hE700 := hE699.map hM685 hg678
        have hr701 := row_kept_at hr630' hg643 (own_neT hr630' hk644 (by decide))
        have hr702 := row_kept_new hr701 hg647
        have hr703 := row_kept_new hr702 (below_grown hb669)
        have hr704 := row_kept_at hr703 hg678 (hM685.row hr703)
        have hk705 := hk673.kept hg678 (by simp; omega)
        have hB706 := fbU_at hB671 hg678 (fun hlt => by rcases hO.sM with hq | hq; exact hq; omega)
        have hEK : EntK S w0.heap.size w675 (EntT.mk c r u392 l ts) := ⟨row_lows hr692 (Nat.zero_le _), InS.low hr692 (by omega), hlen, hen.1, hts.1, hts.2, hen.2.1, hen.2.2⟩
        have hEs := (EntsK.take hE700 i.toNat).snoc hEK
        have hlt : (L.take i.toNat).length = i.toNat := by rw [List.length_take]; omega
        have hdl : (L.drop i.toNat).length = L.length - i.toNat := List.length_drop
        have hfs := findN_snoc (A := L.take i.toNat) (e := (EntT.mk c r u392 l ts)) hfn
        exact ⟨v629, u392, rfl, ⟨hk705, ⟨_, hm676.eq ((by rw [delN_end hO.uq (by omega), hfs, hlt, Int.toNat_of_nonneg (by omega)]; rfl)) (Nat.le_refl _)⟩, (row_eq hr704 (by first | rfl | simp)), hEs, hO.sb, hO.sM, ((show InS (S) w0.heap.size (subV u 0 ((i).toNat) 4) from fun qi hqi => hO.su qi ((cut_block hr624 ((i).toNat)) ▸ hqi)).went hwt632 (by omega)), ((hO.uq.take _).snoc hfn), (by rw [List.length_append, hlt]; simp; omega)⟩, trivial, hB706⟩
   ·
    rw [hc46] at h45
    have hp707 : ((k : Nat) : Int) < (((L.drop ((i).toNat)).length : Nat) : Int) := of_decide_eq_true hc46
    clear hc46
    refine co_true h45 rfl ?_
    refine wp_skip ?_
    refine co_then ?_
    refine co_seq ?_
    refine wp_block ?_
    refine co_seq ?_
    refine co_reg ?_
    obtain ⟨y708, hy708⟩ : ∃ z, (L.drop ((i).toNat))[k]? = some z := ⟨_, List.getElem?_eq_getElem (by first | omega | (simp; done) | (simp; omega))⟩
    have oky708 := (fun (z : EntT) (_ : z ∈ L.drop i.toNat) => trivial) _ (List.mem_of_getElem? hy708)
    have hLy708 : L[i.toNat + k]? = some y708 := by rw [← List.getElem?_drop]; exact hy708
    have hy709 := hf36.at hLy708
    have hq710 := hy709.ts0; have hq711 := hy709.ts1; have hq712 := hy709.len; have hq713 := wf_i64 hy709.cl; have hq714 := wf_i64 hy709.rq
    refine pk (v := pt (blkOf (subV u ((i).toNat) L.length 4)) (offOf (subV u ((i).toNat) L.length 4) + k * 4)) h45 rfl (rn_index rfl rfl rfl Try.underlying48 Try.sizeOf40 (sl_drop (row_sl hf35 entE_len) _ (by omega)) (by omega) (by first | omega | (simp; done) | (simp; omega))) fun a715 h715 => ?_; clear h45
    refine pk (v := .agg #[.int .i64 y708.client, .int .i64 y708.req, y708.ops, .int .u64 y708.ts]) h715 rfl (rn_loadN rfl rfl Try.underlying40 rfl (by kernel_rfl) (sl_at (sl_drop (row_sl hf35 entE_len) _ (by omega)) hy708)) fun a716 h716 => ?_; clear h715
    refine pw h716 rfl (op_new (v := fun N => pt N 0) (T := 40) (cs := #[.int .i64 0, .int .i64 0, .slice none 0 0, .int .u64 0]) (by kernel_rfl) (by kernel_rfl) (by kernel_rfl)) ?_; clear h716
    rintro _ w718 a717 ⟨N719, rfl, hN722, hz723, hk721, hg720⟩ h717
    have ha724 := row_fresh hf35 hN722
    have hu725 := row_under hf35 hN722
    have ha726 := row_fresh hy709.row hN722
    have hu727 := row_under hy709.row hN722
    have hz728 := hg720.size
    try dsimp only at h717
    have hr734 := row_kept_new hy709.row hg720
    refine pwD h717 rfl (op_storeN rfl rfl rfl (all_cons rfl (all_cons rfl (all_cons (row_one hr734) (all_cons rfl all_nil)))) (by kernel_rfl) hk721 rfl) ?_; clear h717
    rintro _ w730 a729 ⟨hk731, hz732, hg733⟩ h729
    have hk731' : Blk w730 N719 40 #[.int .i64 y708.client, .int .i64 y708.req, y708.ops, .int .u64 y708.ts] := hk731; clear hk731
    have hz735 := hg733.size
    refine pl_nil ?_
    refine co_then ?_
    refine dr_gen (fun x => But (S) w0 x ∧ Blk x b 114 #[.bool true, u, .map (some M)] ∧ Blk x N719 40 #[.int .i64 y708.client, .int .i64 y708.req, y708.ops, .int .u64 y708.ts]) (by kernel_rfl) (fun w736 hg737 => ?_) (fun w736 hg737 => ?_)
    ·
     have hz738 := hg737.size
     have hB739 := fbU_new hB38 hg720
     have hB740 := fbU_at hB739 hg733 (fun hlt => absurd hlt (by omega))
     have hB741 := fbU_new hB740 hg737
     have hk742 := hk39.kept hg720 (by simp)
     have hk743 := hk742.kept hg733 (by simp; omega)
     have hk744 := hk743.kept hg737 (by simp)
     have hk745 := hk731'.kept hg737 (by simp)
     exact ⟨hB741, hk744, hk745⟩
    have hz746 := hg737.size
    have hB747 := fbU_new hB38 hg720
    have hB748 := fbU_at hB747 hg733 (fun hlt => absurd hlt (by omega))
    have hB749 := fbU_new hB748 hg737
    have hk750 := hk39.kept hg720 (by simp)
    have hk751 := hk750.kept hg733 (by simp; omega)
    have hk752 := hk751.kept hg737 (by simp)
    have hk753 := hk731'.kept hg737 (by simp)
    refine dk0 0 (v := pt b 0) h729 rfl rfl ⟨hB749, hk752, hk753⟩ fun a754 h754 => ?_; clear h729
    refine dk0 1 (v := pt b 0) h754 rfl rfl ⟨hB749, hk752, hk753⟩ fun a755 h755 => ?_; clear h754
    refine dk0 2 (v := pt b 2) h755 rfl rfl ⟨hB749, hk752, hk753⟩ fun a756 h756 => ?_; clear h755
    refine dk 3 (v := .map (some M)) h756 rfl rfl ⟨hB749, hk752, hk753⟩ (fun x hx => (rn_load1 rfl rfl Try.isAgg112 (hx.2.1.cell rfl))) fun a757 h757 => ?_; clear h756
    refine dk 4 (v := .agg #[.int .i64 y708.client, .int .i64 y708.req, y708.ops, .int .u64 y708.ts]) h757 rfl rfl ⟨hB749, hk752, hk753⟩ (fun x hx => (rn_loadN rfl rfl Try.underlying40 rfl (by kernel_rfl) hx.2.2.all)) fun a758 h758 => ?_; clear h757
    refine d1 5 h758 rfl rfl (op_call (args := #[.agg #[.int .i64 y708.client, .int .i64 y708.req, y708.ops, .int .u64 y708.ts]]) (R := fun res xw => res = .agg #[.int .i64 y708.client, .int .i64 y708.req] ∧ Below w736.heap.size w736 xw) rfl rfl rfl (by kernel_rfl) (by kernel_rfl) (Try.call62 _ _) (lname_any y708.client y708.req y708.ops y708.ts w736 ) (by rintro e x ⟨rfl, hb761⟩; exact ⟨_, rfl, ⟨rfl, hb761⟩⟩)) ?_ ?_; clear h758
    ·
     rintro _ w760 ⟨rfl, hb761⟩
     have hz762 := hb761.size
     have hB763 := fbU_call hB749 hb761
     have hk764 := hk752.below hb761
     have hk765 := hk753.below hb761
     exact ⟨hB763, hk764, hk765⟩
    rintro _ w760 a759 ⟨rfl, hb761⟩ h759
    have hz762 := hb761.size
    have hB763 := fbU_call hB749 hb761
    have hk764 := hk752.below hb761
    have hk765 := hk753.below hb761
    have hM771 := hf37.kept hg720 (by simp)
    have hM772 := hM771.kept hg733 (by simp; omega)
    have hM773 := hM772.kept hg737 (by simp)
    have hM774 := hM773.kept (below_grown hb761) (by simp)
    refine d1D 6 h759 rfl rfl (op_deleteO (a := (y708.client, y708.req)) nm_kl rfl rfl rfl Try.underlying112 hM774) ?_ ?_; clear h759
    ·
     rintro _ w767 ⟨hm768, hz769, hg770⟩
     have hz775 := hg770.size
     have hl776 := hm768.lt
     have hB777 := fbU_at hB763 hg770 (fun hlt => by rcases hO.sM with hq | hq; exact hq; omega)
     have hk778 := hk764.kept hg770 (by simp; omega)
     have hk779 := hk765.kept hg770 (by simp; omega)
     exact ⟨hB777, hk778, hk779⟩
    rintro _ w767 a766 ⟨hm768, hz769, hg770⟩ h766
    have hz775 := hg770.size
    have hl776 := hm768.lt
    refine dr_done (by kernel_rfl) ?_
    refine co_blockN ?_
    refine co_then ?_
    refine co_reg ?_
    refine pk (v := .int .i64 ((k + 1 : Nat) : Int)) h766 rfl (rn_arith' rfl rfl rfl rfl rfl rfl (IntWalk.i64_in _ (by omega)) (by omega)) fun a777 h777 => ?_; clear h766
    refine pk0 (v := .int .i64 ((k + 1 : Nat) : Int)) h777 rfl fun a778 h778 => ?_; clear h777
    refine pl_nil ?_
    refine co_then ?_
    refine ⟨(L.length - i.toNat - (k + 1)), by omega, ?_⟩
    have hr779 := row_kept_new hf35 hg720
    have hr780 := row_kept_at hr779 hg733 (ha724)
    have hr781 := row_kept_new hr780 hg737
    have hr782 := row_kept_new hr781 (below_grown hb761)
    have hr783 := row_kept_at hr782 hg770 (hM774.row hr782)
    have hE784 := hf36.new hg720
    have hE785 := hE784.blk hk721 (by decide) hg733
    have hE786 := hE785.new hg737
    have hE787 := hE786.new (below_grown hb761)
    have hE788 := hE787.map hM774 hg770
    have hB789 := fbU_at hB763 hg770 (fun hlt => by rcases hO.sM with hq | hq; exact hq; omega)
    have hk790 := hk764.kept hg770 (by simp; omega)
    have hk791 := hk40.kept hg720 (by simp)
    have hk792 := hk791.kept hg733 (by simp; omega)
    have hk793 := hk792.kept hg737 (by simp)
    have hk794 := hk793.below hb761
    have hk795 := hk794.kept hg770 (by simp; omega)
    exact ⟨k + 1, h778.sub ⟨rfl, rfl, rfl, rfl, rfl, rfl, trivial⟩, rfl, by omega, hr783, hE788, (hm768.eq (by first | exact (delN_0 _ _).symm | exact delN_step (by assumption)) (Nat.le_refl _)), hB789, hk790, hk795⟩
end Go.Proofs.Ytkjnhghniopnoaa
