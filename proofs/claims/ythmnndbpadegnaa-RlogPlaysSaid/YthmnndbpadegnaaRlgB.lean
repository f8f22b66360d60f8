/- Package rlog: replace. Conditions: at most 100 entries, 20 operations each. -/
import Derived.Test.YthmnndbpadegnaaRlgA
namespace Go.Proofs.Ythmnndbpadegnaa
open Go.RowKit Go.PlainAid
set_option linter.unusedVariables false

set_option maxRecDepth 100000 in
theorem lreplace_any (w0 : World) (S : Nat → Prop) (b : Nat) (M : Nat) (u : Value) (L : List EntT) (i : Int) (c : Int) (r : Int) (v : Value) (l : List OpT) (ts : Int) (w : World) (hbw : But S w0 w) (hO : LgP S w0.heap.size w b M u L) (hi0 : 0 ≤ i ∧ i ≤ L.length ∧ i < 100) (hfn : findN (L.take i.toNat) (c, r) = none) (hs : SliceOf opE 3 w0 v l) (hvS : l ≠ [] → ∀ k, v.ownBlock = some k → ¬ S k) (hlen : l.length ≤ 20) (hts : 0 ≤ ts ∧ ts < 18446744073709551616) (hen : (∀ o ∈ l, opOk o) ∧ (Lit.int .i64 c).wf = true ∧ (Lit.int .i64 r).wf = true) :
    Calls Try.prog 89 #[pt b 0, .int .i64 i, .agg #[.int .i64 c, .int .i64 r, v, .int .u64 ts]] w fun e w' => ∃ (u' : Value) (v' : Value), e = .returned (.tuple #[]) ∧ LgP S w0.heap.size w' b M u' (L.take i.toNat ++ [EntT.mk c r v' l ts]) ∧ True ∧ But (S) w0 w' := by
 have hB0 := hbw
 have hz0 := hbw.size
 have hz0 := hbw.size
 have hl3 := hO.blk.lt; obtain ⟨c1, hm2⟩ := hO.map; have hl4 := hm2.lt; have hne5 := blk_ne_mapN hO.blk hm2; have hln6 := hO.len
 have hln0 := sl_len hs
 have hdl0 : (L.drop i.toNat).length = L.length - i.toNat := List.length_drop
 refine co_enter (n := 47) Try.func89 rfl rfl rfl [(0, pt b 0), (1, .int .i64 i), (2, .agg #[.int .i64 c, .int .i64 r, v, .int .u64 ts])] rfl (fun a h0 => ?_)
 refine co_seq ?_
 refine co_reg ?_
 refine pw h0 rfl (op_new (v := fun N => pt N 0) (T := 47) (cs := #[.int .i64 c, .int .i64 r, v, .int .u64 ts]) (by kernel_rfl) (by kernel_rfl) (by kernel_rfl)) ?_; clear h0
 rintro _ w8 a7 ⟨N9, rfl, hN12, hz13, hk11, hg10⟩ h7
 have ha14 := row_fresh hO.row hN12
 have hu15 := row_under hO.row hN12
 have hz16 := hg10.size
 try dsimp only at h7
 refine pl_nil ?_
 refine co_then ?_
 refine co_seq ?_
 refine co_seq ?_
 refine co_reg ?_
 refine pk0 (v := pt b 0) h7 rfl fun a17 h17 => ?_; clear h7
 refine pk0 (v := pt b 0) h17 rfl fun a18 h18 => ?_; clear h17
 refine pk0 (v := pt b 1) h18 rfl fun a19 h19 => ?_; clear h18
 have hk20 := hO.blk.kept hg10 (by simp)
 refine pk (v := u) h19 rfl (rn_load1 rfl rfl Try.isAgg39 (hk20.cell rfl)) fun a21 h21 => ?_; clear h19
 refine pk0 (v := .int .i64 i) h21 rfl fun a22 h22 => ?_; clear h21
 have hr23 := row_kept_new hO.row hg10
 refine pk (v := subV u ((i).toNat) L.length 4) h22 rfl (rn_sliceFrom rfl rfl rfl Try.underlying39 Try.sizeOf47 (row_sl hr23 entE_len) (by omega) (by omega)) fun a24 h24 => ?_; clear h22
 refine pk (v := .int .i64 (((L.drop ((i).toNat)).length : Nat) : Int)) h24 rfl (rn_len rfl rfl Try.underlying39 (sl_drop (row_sl hr23 entE_len) _ (by omega))) fun a25 h25 => ?_; clear h24
 refine pk0 (v := .int .i64 0) h25 rfl fun a26 h26 => ?_; clear h25
 refine pl_nil ?_
 refine co_then ?_
 refine wp_block ?_
 have h27 : Slots 47 [(0, pt b 0), (1, .int .i64 i), (5, pt N9 0), (13, subV u ((i).toNat) L.length 4), (14, .int .i64 (((L.drop ((i).toNat)).length : Nat) : Int)), (15, .int .i64 0)] _ := h26.sub ⟨rfl, rfl, rfl, rfl, rfl, rfl, trivial⟩; clear h26
 refine co_loop (fun mm a x => ∃ (k : Nat), Slots 47 [(0, pt b 0), (1, .int .i64 i), (5, pt N9 0), (13, subV u ((i).toNat) L.length 4), (14, .int .i64 (((L.drop ((i).toNat)).length : Nat) : Int)), (15, .int .i64 ((k : Nat) : Int))] a ∧ mm = L.length - i.toNat - k ∧ (k + i.toNat ≤ L.length) ∧ x.ownsRow 0 47 4 u L.length (L.flatMap entE) ∧ EntsK S w0.heap.size x L ∧ MapO arr2K spotV x M (delN L i.toNat k) c1 ∧ But (S) w0 x ∧ Blk x b 67 #[.bool true, u, .map (some M)] ∧ Blk x N9 47 #[.int .i64 c, .int .i64 r, v, .int .u64 ts]) (L.length - i.toNat - 0) ?_ ?_
 have hE28 := hO.ents.new hg10
 have hM29 := hm2.kept hg10 (by simp)
 have hB30 := fbU_new hB0 hg10
 · exact ⟨0, h27.sub ⟨rfl, rfl, rfl, rfl, rfl, (slot_eq rfl (congrArg (Value.int .i64) (by first | rfl | omega))), trivial⟩, rfl, by omega, hr23, hE28, (hM29.eq (by first | exact (delN_0 _ _).symm | exact delN_step (by assumption)) (Nat.le_refl _)), hB30, hk20, hk11⟩
 · rintro k31 a32 w33 ⟨k, h32, rfl, hi34, hf35, hf36, hf37, hB38, hk39, hk40⟩
   have hz41 := hB38.size
   have hl42 := hk39.lt
   have hl43 := hk40.lt
   have hl44 := hf37.lt
   refine co_seq ?_
   refine co_reg ?_
   refine pk0 (v := .bool (decide (((k : Nat) : Int) < (((L.drop ((i).toNat)).length : Nat) : Int)))) h32 rfl fun a45 h45 => ?_; clear h32
   refine pl_nil ?_
   refine co_then ?_
   refine co_seq ?_
   cases hc46 : (decide (((k : Nat) : Int) < (((L.drop ((i).toNat)).length : Nat) : Int)))
   ·
    rw [hc46] at h45
    have hp47 : ¬ (((k : Nat) : Int) < (((L.drop ((i).toNat)).length : Nat) : Int)) := of_decide_eq_false hc46
    clear hc46
    refine co_false h45 rfl ?_
    refine wp_exit ?_
    refine co_thenX ?_
    refine co_thenX ?_
    refine co_blockX ?_
    refine co_then ?_
    refine co_seq ?_
    refine dr_gen (fun x => But (S) w0 x ∧ Blk x N9 47 #[.int .i64 c, .int .i64 r, v, .int .u64 ts]) (by kernel_rfl) (fun w48 hg49 => ?_) (fun w48 hg49 => ?_)
    ·
     have hz50 := hg49.size
     have hB51 := fbU_new hB38 hg49
     have hk52 := hk40.kept hg49 (by simp)
     exact ⟨hB51, hk52⟩
    have hz53 := hg49.size
    have hB54 := fbU_new hB38 hg49
    have hk55 := hk40.kept hg49 (by simp)
    refine dk0 0 (v := pt b 0) h45 rfl rfl ⟨hB54, hk55⟩ fun a56 h56 => ?_; clear h45
    refine dk0 1 (v := pt b 0) h56 rfl rfl ⟨hB54, hk55⟩ fun a57 h57 => ?_; clear h56
    refine dk0 2 (v := pt b 0) h57 rfl rfl ⟨hB54, hk55⟩ fun a58 h58 => ?_; clear h57
    refine dk0 3 (v := pt b 1) h58 rfl rfl ⟨hB54, hk55⟩ fun a59 h59 => ?_; clear h58
    refine dk0 5 (v := .int .i64 i) h59 rfl rfl ⟨hB54, hk55⟩ fun a60 h60 => ?_; clear h59
    refine dr_many [4, 7] (by kernel_rfl) (by simp) ⟨?_, ?_, trivial⟩
    ·
     have hk61 := hk39.kept hg49 (by simp)
     refine dr_opVal (i := 4) (v := u) h60 rfl rfl rfl rfl (by kernel_rfl) rfl (rn_load1 rfl rfl Try.isAgg39 (hk61.cell rfl)) ⟨hB54, hk55⟩ (fun a62 h62 => ?_); clear h60
     refine dr_many [6, 7] (by kernel_rfl) (by simp) ⟨?_, ?_, trivial⟩
     ·
      have hr63 := row_kept_new hf35 hg49
      have hr64 := row_cut hr63 entE_len ((i).toNat) (by omega) (.inr trivial)
      refine dr_opVal (i := 6) (v := subV u 0 ((i).toNat) 4) h62 rfl rfl rfl rfl (by kernel_rfl) rfl (rn_sliceTo rfl rfl rfl Try.underlying39 Try.sizeOf47 (row_sl hr63 entE_len) (by omega) (by omega)) ⟨hB54, hk55⟩ (fun a65 h65 => ?_); clear h62
      refine dr_many [7] (by kernel_rfl) (by simp) ⟨?_, trivial⟩
      ·
       refine dr_opVal (i := 7) (v := .agg #[.int .i64 c, .int .i64 r, v, .int .u64 ts]) h65 rfl rfl rfl rfl (by kernel_rfl) rfl (rn_loadN rfl rfl Try.underlying47 rfl (by kernel_rfl) hk55.all) ⟨hB54, hk55⟩ (fun a66 h66 => ?_); clear h65
       refine d1 8 h66 rfl rfl (op_call (args := #[.agg #[.int .i64 c, .int .i64 r, v, .int .u64 ts]]) (R := fun res xw => ∃ u : Value, res = .agg #[.int .i64 c, .int .i64 r, u, .int .u64 ts] ∧ xw.ownsRow w48.heap.size 127 3 u l.length (l.flatMap opE) ∧ Below w48.heap.size w48 xw) rfl rfl rfl (by kernel_rfl) (by kernel_rfl) (Try.call81 _ _) (freshEntry_any c r v l ts w48 (sl_butN hs hB54 hvS) (by first | omega | (simp; done) | (simp; omega))) (by rintro e x ⟨u, rfl, hq70, hb71⟩; exact ⟨_, rfl, ⟨u, rfl, hq70, hb71⟩⟩)) ?_ ?_; clear h66
       ·
        rintro _ w68 ⟨u69, rfl, hq70, hb71⟩
        have hz72 := hb71.size
        have hl73 := sl_len (row_sl hq70 opE_len)
        have hB74 := fbU_call hB54 hb71
        have hk75 := hk55.below hb71
        exact ⟨hB74, hk75⟩
       rintro _ w68 a67 ⟨u69, rfl, hq70, hb71⟩ h67
       have hz72 := hb71.size
       have hl73 := sl_len (row_sl hq70 opE_len)
       have hB74 := fbU_call hB54 hb71
       have hk75 := hk55.below hb71
       refine d1 9 h67 rfl rfl (op_new (v := fun N => .slice (some ⟨N, 0, none⟩) 1 1) (T := 47) (cs := #[.int .i64 c, .int .i64 r, u69, .int .u64 ts]) (by kernel_rfl) (by kernel_rfl) (by kernel_rfl)) ?_ ?_; clear h67
       ·
        rintro _ w77 ⟨N78, rfl, hN81, hz82, hk80, hg79⟩
        have hr84 := row_kept_new hr63 (below_grown hb71)
        have ha83 := row_fresh hr84 hN81
        have hu85 := row_under hr84 hN81
        have hr87 := row_kept_new hr64 (below_grown hb71)
        have ha86 := row_fresh hr87 hN81
        have hu88 := row_under hr87 hN81
        have ha89 := row_fresh hq70 hN81
        have hu90 := row_under hq70 hN81
        have hz91 := hg79.size
        have hB92 := fbU_new hB74 hg79
        have hk93 := hk75.kept hg79 (by simp)
        exact ⟨hB92, hk93⟩
       rintro _ w77 a76 ⟨N78, rfl, hN81, hz82, hk80, hg79⟩ h76
       have hr84 := row_kept_new hr63 (below_grown hb71)
       have ha83 := row_fresh hr84 hN81
       have hu85 := row_under hr84 hN81
       have hr87 := row_kept_new hr64 (below_grown hb71)
       have ha86 := row_fresh hr87 hN81
       have hu88 := row_under hr87 hN81
       have ha89 := row_fresh hq70 hN81
       have hu90 := row_under hq70 hN81
       have hz91 := hg79.size
       try dsimp only at h76
       have hB92 := fbU_new hB74 hg79
       have hk93 := hk75.kept hg79 (by simp)
       have hr100 := row_kept_new hr87 hg79
       have hr101 := row_kept_new hq70 hg79
       refine d1 10 h76 rfl rfl (op_appendF rfl 0 47 (z := .agg #[.int .i64 0, .int .i64 0, .slice none 0 0, .int .u64 0]) (size := 4) (bytes := 48) Try.underlying39 (by kernel_rfl) rfl rfl rfl hr100 rfl hk80 rfl (all_cons rfl (all_cons rfl (all_cons (row_one hr101) (all_cons rfl all_nil)))) (by first | omega | (simp only [List.length_nil, List.length_append, List.length_cons, List.length_take, List.length_drop]; omega)) (by first | omega | (simp only [List.length_nil, List.length_append, List.length_cons, List.length_take, List.length_drop]; omega)) (by omega)) ?_ ?_; clear h76
       ·
        rintro v96 w95 ⟨hr97, hwt99, hg98⟩
        have hr97' : w95.ownsRow 0 47 4 v96 ((L.take ((i).toNat) ++ [(EntT.mk c r u69 l ts)]).length) ((L.take ((i).toNat) ++ [(EntT.mk c r u69 l ts)]).flatMap entE) := row_push (y := (EntT.mk c r u69 l ts)) hr97 rfl rfl; clear hr97
        have hz102 := hg98.size
        have hB103 := fbU_row hB92 (show InS (S) w0.heap.size (subV u 0 ((i).toNat) 4) from fun qi hqi => hO.su qi ((cut_block hr63 ((i).toNat)) ▸ hqi)) hg98
        have hk104 := hk93.kept hg98 ((fun eq => ha14 ((cut_block hr63 ((i).toNat)) ▸ eq)))
        exact ⟨hB103, hk104⟩
       rintro v96 w95 a94 ⟨hr97, hwt99, hg98⟩ h94
       have hr97' : w95.ownsRow 0 47 4 v96 ((L.take ((i).toNat) ++ [(EntT.mk c r u69 l ts)]).length) ((L.take ((i).toNat) ++ [(EntT.mk c r u69 l ts)]).flatMap entE) := row_push (y := (EntT.mk c r u69 l ts)) hr97 rfl rfl; clear hr97
       have hz102 := hg98.size
       have hB103 := fbU_row hB92 (show InS (S) w0.heap.size (subV u 0 ((i).toNat) 4) from fun qi hqi => hO.su qi ((cut_block hr63 ((i).toNat)) ▸ hqi)) hg98
       have hk104 := hk93.kept hg98 ((fun eq => ha14 ((cut_block hr63 ((i).toNat)) ▸ eq)))
       refine dk0 11 (v := pt b 0) h94 rfl rfl ⟨hB103, hk104⟩ fun a105 h105 => ?_; clear h94
       refine dk0 12 (v := pt b 1) h105 rfl rfl ⟨hB103, hk104⟩ fun a106 h106 => ?_; clear h105
       have hk112 := hk61.below hb71
       have hk113 := hk112.kept hg79 (by simp)
       have hk114 := hk113.kept hg98 (own_neT hr100 hk113 (by decide))
       refine d1D 13 h106 rfl rfl (op_store1 rfl rfl rfl (row_one hr97') Try.sizeOf39 hk114 rfl) ?_ ?_; clear h106
       ·
        rintro _ w108 ⟨hk109, hz110, hg111⟩
        have hk109' : Blk w108 b 67 #[.bool true, v96, .map (some M)] := hk109; clear hk109
        have hz115 := hg111.size
        have hB116 := fbU_at hB103 hg111 (fun hlt => by rcases hO.sb with hq | hq; exact hq; omega)
        have hk117 := hk104.kept hg111 (by simp; omega)
        exact ⟨hB116, hk117⟩
       rintro _ w108 a107 ⟨hk109, hz110, hg111⟩ h107
       have hk109' : Blk w108 b 67 #[.bool true, v96, .map (some M)] := hk109; clear hk109
       have hz115 := hg111.size
       refine dr_done (by kernel_rfl) ?_
       refine co_then ?_
       refine dr_gen (fun x => But (S) w0 x ∧ Blk x N9 47 #[.int .i64 c, .int .i64 r, v, .int .u64 ts] ∧ Blk x b 67 #[.bool true, v96, .map (some M)]) (by kernel_rfl) (fun w116 hg117 => ?_) (fun w116 hg117 => ?_)
       ·
        have hz118 := hg117.size
        have hB119 := fbU_at hB103 hg111 (fun hlt => by rcases hO.sb with hq | hq; exact hq; omega)
        have hB120 := fbU_new hB119 hg117
        have hk121 := hk104.kept hg111 (by simp; omega)
        have hk122 := hk121.kept hg117 (by simp)
        have hk123 := hk109'.kept hg117 (by simp)
        exact ⟨hB120, hk122, hk123⟩
       have hz124 := hg117.size
       have hB125 := fbU_at hB103 hg111 (fun hlt => by rcases hO.sb with hq | hq; exact hq; omega)
       have hB126 := fbU_new hB125 hg117
       have hk127 := hk104.kept hg111 (by simp; omega)
       have hk128 := hk127.kept hg117 (by simp)
       have hk129 := hk109'.kept hg117 (by simp)
       refine dk0 0 (v := pt b 0) h107 rfl rfl ⟨hB126, hk128, hk129⟩ fun a130 h130 => ?_; clear h107
       refine dk0 1 (v := pt b 0) h130 rfl rfl ⟨hB126, hk128, hk129⟩ fun a131 h131 => ?_; clear h130
       refine dk0 2 (v := pt b 2) h131 rfl rfl ⟨hB126, hk128, hk129⟩ fun a132 h132 => ?_; clear h131
       refine dk 3 (v := .map (some M)) h132 rfl rfl ⟨hB126, hk128, hk129⟩ (fun x hx => (rn_load1 rfl rfl Try.isAgg65 (hx.2.2.cell rfl))) fun a133 h133 => ?_; clear h132
       refine dk 4 (v := .agg #[.int .i64 c, .int .i64 r, v, .int .u64 ts]) h133 rfl rfl ⟨hB126, hk128, hk129⟩ (fun x hx => (rn_loadN rfl rfl Try.underlying47 rfl (by kernel_rfl) hx.2.1.all)) fun a134 h134 => ?_; clear h133
       refine dk0 6 (v := .int .i64 i) h134 rfl rfl ⟨hB126, hk128, hk129⟩ fun a135 h135 => ?_; clear h134
       refine dk0 7 (v := .agg #[.int .i64 i]) h135 rfl rfl ⟨hB126, hk128, hk129⟩ fun a136 h136 => ?_; clear h135
       refine d1 5 h136 rfl rfl (op_call (args := #[.agg #[.int .i64 c, .int .i64 r, v, .int .u64 ts]]) (R := fun res xw => res = .agg #[.int .i64 c, .int .i64 r] ∧ Below w116.heap.size w116 xw) rfl rfl rfl (by kernel_rfl) (by kernel_rfl) (Try.call87 _ _) (lname_any c r v ts w116 ) (by rintro e x ⟨rfl, hb139⟩; exact ⟨_, rfl, ⟨rfl, hb139⟩⟩)) ?_ ?_; clear h136
       ·
        rintro _ w138 ⟨rfl, hb139⟩
        have hz140 := hb139.size
        have hB141 := fbU_call hB126 hb139
        have hk142 := hk128.below hb139
        have hk143 := hk129.below hb139
        exact ⟨hB141, hk142, hk143⟩
       rintro _ w138 a137 ⟨rfl, hb139⟩ h137
       have hz140 := hb139.size
       have hB141 := fbU_call hB126 hb139
       have hk142 := hk128.below hb139
       have hk143 := hk129.below hb139
       have hM149 := hf37.kept hg49 (by simp)
       have hM150 := hM149.kept (below_grown hb71) (by simp)
       have hM151 := hM150.kept hg79 (by simp)
       have hM152 := hM151.kept hg98 (hM151.row hr100)
       have hM153 := hM152.kept hg111 (by simp; omega)
       have hM154 := hM153.kept hg117 (by simp)
       have hM155 := hM154.kept (below_grown hb139) (by simp)
       refine d1D 8 h137 rfl rfl (op_updateO (a := (c, r)) (v := i) nm_kl rfl rfl rfl rfl Try.underlying65 hM155) ?_ ?_; clear h137
       ·
        rintro _ w145 ⟨hm146, hz147, hg148⟩
        have hz156 := hg148.size
        have hl157 := hm146.lt
        have hB158 := fbU_at hB141 hg148 (fun hlt => by rcases hO.sM with hq | hq; exact hq; omega)
        have hk159 := hk142.kept hg148 (by simp; omega)
        have hk160 := hk143.kept hg148 (by simp; omega)
        exact ⟨hB158, hk159, hk160⟩
       rintro _ w145 a144 ⟨hm146, hz147, hg148⟩ h144
       have hz156 := hg148.size
       have hl157 := hm146.lt
       refine dr_done (by kernel_rfl) ?_
       refine co_ret0n h144 rfl ?_
       have hr158 := row_kept_row hr101 hr100 hg98 (by decide)
       have hr159 := row_kept_at hr158 hg111 (own_neT hr158 hk114 (by decide))
       have hr160 := row_kept_new hr159 hg117
       have hr161 := row_kept_new hr160 (below_grown hb139)
       have hr162 := row_kept_at hr161 hg148 (hM155.row hr161)
       have hE163 := hf36.new hg49
       have hE164 := hE163.new (below_grown hb71)
       have hE165 := hE164.new hg79
       have hE166 := hE165.row hr100 (by decide) hg98
       have hE167 := hE166.blk hk114 (by decide) hg111
       have hE168 := hE167.new hg117
       have hE169 := hE168.new (below_grown hb139)
       have hE170 := hE169.map hM155 hg148
       have hr171 := row_kept_at hr97' hg111 (own_neT hr97' hk114 (by decide))
       have hr172 := row_kept_new hr171 hg117
       have hr173 := row_kept_new hr172 (below_grown hb139)
       have hr174 := row_kept_at hr173 hg148 (hM155.row hr173)
       have hk175 := hk143.kept hg148 (by simp; omega)
       have hB176 := fbU_at hB141 hg148 (fun hlt => by rcases hO.sM with hq | hq; exact hq; omega)
       have hEK : EntK S w0.heap.size w145 (EntT.mk c r u69 l ts) := ⟨row_lows hr162 (Nat.zero_le _), InS.low hr162 (by omega), hlen, hen.1, hts.1, hts.2, hen.2.1, hen.2.2⟩
       have hEs := (EntsK.take hE170 i.toNat).snoc hEK
       have hlt : (L.take i.toNat).length = i.toNat := by rw [List.length_take]; omega
       have hdl : (L.drop i.toNat).length = L.length - i.toNat := List.length_drop
       have hfs := findN_snoc (A := L.take i.toNat) (e := (EntT.mk c r u69 l ts)) hfn
       exact ⟨v96, u69, rfl, ⟨hk175, ⟨_, hm146.eq ((by rw [delN_end hO.uq (by omega), hfs, hlt, Int.toNat_of_nonneg (by omega)]; rfl)) (Nat.le_refl _)⟩, (row_eq hr174 (by first | rfl | simp)), hEs, hO.sb, hO.sM, ((show InS (S) w0.heap.size (subV u 0 ((i).toNat) 4) from fun qi hqi => hO.su qi ((cut_block hr63 ((i).toNat)) ▸ hqi)).went hwt99 (by omega)), ((hO.uq.take _).snoc hfn), (by rw [List.length_append, hlt]; simp; omega)⟩, trivial, hB176⟩
     ·
      refine dr_opVal (i := 7) (v := .agg #[.int .i64 c, .int .i64 r, v, .int .u64 ts]) h62 rfl rfl rfl rfl (by kernel_rfl) rfl (rn_loadN rfl rfl Try.underlying47 rfl (by kernel_rfl) hk55.all) ⟨hB54, hk55⟩ (fun a177 h177 => ?_); clear h62
      refine dr_many [6, 8] (by kernel_rfl) (by simp) ⟨?_, ?_, trivial⟩
      ·
       have hr178 := row_kept_new hf35 hg49
       have hr179 := row_cut hr178 entE_len ((i).toNat) (by omega) (.inr trivial)
       refine dr_opVal (i := 6) (v := subV u 0 ((i).toNat) 4) h177 rfl rfl rfl rfl (by kernel_rfl) rfl (rn_sliceTo rfl rfl rfl Try.underlying39 Try.sizeOf47 (row_sl hr178 entE_len) (by omega) (by omega)) ⟨hB54, hk55⟩ (fun a180 h180 => ?_); clear h177
       refine d1 8 h180 rfl rfl (op_call (args := #[.agg #[.int .i64 c, .int .i64 r, v, .int .u64 ts]]) (R := fun res xw => ∃ u : Value, res = .agg #[.int .i64 c, .int .i64 r, u, .int .u64 ts] ∧ xw.ownsRow w48.heap.size 127 3 u l.length (l.flatMap opE) ∧ Below w48.heap.size w48 xw) rfl rfl rfl (by kernel_rfl) (by kernel_rfl) (Try.call81 _ _) (freshEntry_any c r v l ts w48 (sl_butN hs hB54 hvS) (by first | omega | (simp; done) | (simp; omega))) (by rintro e x ⟨u, rfl, hq184, hb185⟩; exact ⟨_, rfl, ⟨u, rfl, hq184, hb185⟩⟩)) ?_ ?_; clear h180
       ·
        rintro _ w182 ⟨u183, rfl, hq184, hb185⟩
        have hz186 := hb185.size
        have hl187 := sl_len (row_sl hq184 opE_len)
        have hB188 := fbU_call hB54 hb185
        have hk189 := hk55.below hb185
        exact ⟨hB188, hk189⟩
       rintro _ w182 a181 ⟨u183, rfl, hq184, hb185⟩ h181
       have hz186 := hb185.size
       have hl187 := sl_len (row_sl hq184 opE_len)
       have hB188 := fbU_call hB54 hb185
       have hk189 := hk55.below hb185
       refine d1 9 h181 rfl rfl (op_new (v := fun N => .slice (some ⟨N, 0, none⟩) 1 1) (T := 47) (cs := #[.int .i64 c, .int .i64 r, u183, .int .u64 ts]) (by kernel_rfl) (by kernel_rfl) (by kernel_rfl)) ?_ ?_; clear h181
       ·
        rintro _ w191 ⟨N192, rfl, hN195, hz196, hk194, hg193⟩
        have hr198 := row_kept_new hr178 (below_grown hb185)
        have ha197 := row_fresh hr198 hN195
        have hu199 := row_under hr198 hN195
        have hr201 := row_kept_new hr179 (below_grown hb185)
        have ha200 := row_fresh hr201 hN195
        have hu202 := row_under hr201 hN195
        have ha203 := row_fresh hq184 hN195
        have hu204 := row_under hq184 hN195
        have hz205 := hg193.size
        have hB206 := fbU_new hB188 hg193
        have hk207 := hk189.kept hg193 (by simp)
        exact ⟨hB206, hk207⟩
       rintro _ w191 a190 ⟨N192, rfl, hN195, hz196, hk194, hg193⟩ h190
       have hr198 := row_kept_new hr178 (below_grown hb185)
       have ha197 := row_fresh hr198 hN195
       have hu199 := row_under hr198 hN195
       have hr201 := row_kept_new hr179 (below_grown hb185)
       have ha200 := row_fresh hr201 hN195
       have hu202 := row_under hr201 hN195
       have ha203 := row_fresh hq184 hN195
       have hu204 := row_under hq184 hN195
       have hz205 := hg193.size
       try dsimp only at h190
       have hB206 := fbU_new hB188 hg193
       have hk207 := hk189.kept hg193 (by simp)
       have hr214 := row_kept_new hr201 hg193
       have hr215 := row_kept_new hq184 hg193
       refine d1 10 h190 rfl rfl (op_appendF rfl 0 47 (z := .agg #[.int .i64 0, .int .i64 0, .slice none 0 0, .int .u64 0]) (size := 4) (bytes := 48) Try.underlying39 (by kernel_rfl) rfl rfl rfl hr214 rfl hk194 rfl (all_cons rfl (all_cons rfl (all_cons (row_one hr215) (all_cons rfl all_nil)))) (by first | omega | (simp only [List.length_nil, List.length_append, List.length_cons, List.length_take, List.length_drop]; omega)) (by first | omega | (simp only [List.length_nil, List.length_append, List.length_cons, List.length_take, List.length_drop]; omega)) (by omega)) ?_ ?_; clear h190
       ·
        rintro v210 w209 ⟨hr211, hwt213, hg212⟩
        have hr211' : w209.ownsRow 0 47 4 v210 ((L.take ((i).toNat) ++ [(EntT.mk c r u183 l ts)]).length) ((L.take ((i).toNat) ++ [(EntT.mk c r u183 l ts)]).flatMap entE) := row_push (y := (EntT.mk c r u183 l ts)) hr211 rfl rfl; clear hr211
        have hz216 := hg212.size
        have hB217 := fbU_row hB206 (show InS (S) w0.heap.size (subV u 0 ((i).toNat) 4) from fun qi hqi => hO.su qi ((cut_block hr178 ((i).toNat)) ▸ hqi)) hg212
        have hk218 := hk207.kept hg212 ((fun eq => ha14 ((cut_block hr178 ((i).toNat)) ▸ eq)))
        exact ⟨hB217, hk218⟩
       rintro v210 w209 a208 ⟨hr211, hwt213, hg212⟩ h208
       have hr211' : w209.ownsRow 0 47 4 v210 ((L.take ((i).toNat) ++ [(EntT.mk c r u183 l ts)]).length) ((L.take ((i).toNat) ++ [(EntT.mk c r u183 l ts)]).flatMap entE) := row_push (y := (EntT.mk c r u183 l ts)) hr211 rfl rfl; clear hr211
       have hz216 := hg212.size
       have hB217 := fbU_row hB206 (show InS (S) w0.heap.size (subV u 0 ((i).toNat) 4) from fun qi hqi => hO.su qi ((cut_block hr178 ((i).toNat)) ▸ hqi)) hg212
       have hk218 := hk207.kept hg212 ((fun eq => ha14 ((cut_block hr178 ((i).toNat)) ▸ eq)))
       refine dk0 11 (v := pt b 0) h208 rfl rfl ⟨hB217, hk218⟩ fun a219 h219 => ?_; clear h208
       refine dk0 12 (v := pt b 1) h219 rfl rfl ⟨hB217, hk218⟩ fun a220 h220 => ?_; clear h219
       have hk226 := hk61.below hb185
       have hk227 := hk226.kept hg193 (by simp)
       have hk228 := hk227.kept hg212 (own_neT hr214 hk227 (by decide))
       refine d1D 13 h220 rfl rfl (op_store1 rfl rfl rfl (row_one hr211') Try.sizeOf39 hk228 rfl) ?_ ?_; clear h220
       ·
        rintro _ w222 ⟨hk223, hz224, hg225⟩
        have hk223' : Blk w222 b 67 #[.bool true, v210, .map (some M)] := hk223; clear hk223
        have hz229 := hg225.size
        have hB230 := fbU_at hB217 hg225 (fun hlt => by rcases hO.sb with hq | hq; exact hq; omega)
        have hk231 := hk218.kept hg225 (by simp; omega)
        exact ⟨hB230, hk231⟩
       rintro _ w222 a221 ⟨hk223, hz224, hg225⟩ h221
       have hk223' : Blk w222 b 67 #[.bool true, v210, .map (some M)] := hk223; clear hk223
       have hz229 := hg225.size
       refine dr_done (by kernel_rfl) ?_
       refine co_then ?_
       refine dr_gen (fun x => But (S) w0 x ∧ Blk x N9 47 #[.int .i64 c, .int .i64 r, v, .int .u64 ts] ∧ Blk x b 67 #[.bool true, v210, .map (some M)]) (by kernel_rfl) (fun w230 hg231 => ?_) (fun w230 hg231 => ?_)
       ·
        have hz232 := hg231.size
        have hB233 := fbU_at hB217 hg225 (fun hlt => by rcases hO.sb with hq | hq; exact hq; omega)
        have hB234 := fbU_new hB233 hg231
        have hk235 := hk218.kept hg225 (by simp; omega)
        have hk236 := hk235.kept hg231 (by simp)
        have hk237 := hk223'.kept hg231 (by simp)
        exact ⟨hB234, hk236, hk237⟩
       have hz238 := hg231.size
       have hB239 := fbU_at hB217 hg225 (fun hlt => by rcases hO.sb with hq | hq; exact hq; omega)
       have hB240 := fbU_new hB239 hg231
       have hk241 := hk218.kept hg225 (by simp; omega)
       have hk242 := hk241.kept hg231 (by simp)
       have hk243 := hk223'.kept hg231 (by simp)
       refine dk0 0 (v := pt b 0) h221 rfl rfl ⟨hB240, hk242, hk243⟩ fun a244 h244 => ?_; clear h221
       refine dk0 1 (v := pt b 0) h244 rfl rfl ⟨hB240, hk242, hk243⟩ fun a245 h245 => ?_; clear h244
       refine dk0 2 (v := pt b 2) h245 rfl rfl ⟨hB240, hk242, hk243⟩ fun a246 h246 => ?_; clear h245
       refine dk 3 (v := .map (some M)) h246 rfl rfl ⟨hB240, hk242, hk243⟩ (fun x hx => (rn_load1 rfl rfl Try.isAgg65 (hx.2.2.cell rfl))) fun a247 h247 => ?_; clear h246
       refine dk 4 (v := .agg #[.int .i64 c, .int .i64 r, v, .int .u64 ts]) h247 rfl rfl ⟨hB240, hk242, hk243⟩ (fun x hx => (rn_loadN rfl rfl Try.underlying47 rfl (by kernel_rfl) hx.2.1.all)) fun a248 h248 => ?_; clear h247
       refine dk0 6 (v := .int .i64 i) h248 rfl rfl ⟨hB240, hk242, hk243⟩ fun a249 h249 => ?_; clear h248
       refine dk0 7 (v := .agg #[.int .i64 i]) h249 rfl rfl ⟨hB240, hk242, hk243⟩ fun a250 h250 => ?_; clear h249
       refine d1 5 h250 rfl rfl (op_call (args := #[.agg #[.int .i64 c, .int .i64 r, v, .int .u64 ts]]) (R := fun res xw => res = .agg #[.int .i64 c, .int .i64 r] ∧ Below w230.heap.size w230 xw) rfl rfl rfl (by kernel_rfl) (by kernel_rfl) (Try.call87 _ _) (lname_any c r v ts w230 ) (by rintro e x ⟨rfl, hb253⟩; exact ⟨_, rfl, ⟨rfl, hb253⟩⟩)) ?_ ?_; clear h250
       ·
        rintro _ w252 ⟨rfl, hb253⟩
        have hz254 := hb253.size
        have hB255 := fbU_call hB240 hb253
        have hk256 := hk242.below hb253
        have hk257 := hk243.below hb253
        exact ⟨hB255, hk256, hk257⟩
       rintro _ w252 a251 ⟨rfl, hb253⟩ h251
       have hz254 := hb253.size
       have hB255 := fbU_call hB240 hb253
       have hk256 := hk242.below hb253
       have hk257 := hk243.below hb253
       have hM263 := hf37.kept hg49 (by simp)
       have hM264 := hM263.kept (below_grown hb185) (by simp)
       have hM265 := hM264.kept hg193 (by simp)
       have hM266 := hM265.kept hg212 (hM265.row hr214)
       have hM267 := hM266.kept hg225 (by simp; omega)
       have hM268 := hM267.kept hg231 (by simp)
       have hM269 := hM268.kept (below_grown hb253) (by simp)
       refine d1D 8 h251 rfl rfl (op_updateO (a := (c, r)) (v := i) nm_kl rfl rfl rfl rfl Try.underlying65 hM269) ?_ ?_; clear h251
       ·
        rintro _ w259 ⟨hm260, hz261, hg262⟩
        have hz270 := hg262.size
        have hl271 := hm260.lt
        have hB272 := fbU_at hB255 hg262 (fun hlt => by rcases hO.sM with hq | hq; exact hq; omega)
        have hk273 := hk256.kept hg262 (by simp; omega)
        have hk274 := hk257.kept hg262 (by simp; omega)
        exact ⟨hB272, hk273, hk274⟩
       rintro _ w259 a258 ⟨hm260, hz261, hg262⟩ h258
       have hz270 := hg262.size
       have hl271 := hm260.lt
       refine dr_done (by kernel_rfl) ?_
       refine co_ret0n h258 rfl ?_
       have hr272 := row_kept_row hr215 hr214 hg212 (by decide)
       have hr273 := row_kept_at hr272 hg225 (own_neT hr272 hk228 (by decide))
       have hr274 := row_kept_new hr273 hg231
       have hr275 := row_kept_new hr274 (below_grown hb253)
       have hr276 := row_kept_at hr275 hg262 (hM269.row hr275)
       have hE277 := hf36.new hg49
       have hE278 := hE277.new (below_grown hb185)
       have hE279 := hE278.new hg193
       have hE280 := hE279.row hr214 (by decide) hg212
       have hE281 := hE280.blk hk228 (by decide) hg225
       have hE282 := hE281.new hg231
       have hE283 := hE282.new (below_grown hb253)
       have hE284 := hE283.map hM269 hg262
       have hr285 := row_kept_at hr211' hg225 (own_neT hr211' hk228 (by decide))
       have hr286 := row_kept_new hr285 hg231
       have hr287 := row_kept_new hr286 (below_grown hb253)
       have hr288 := row_kept_at hr287 hg262 (hM269.row hr287)
       have hk289 := hk257.kept hg262 (by simp; omega)
       have hB290 := fbU_at hB255 hg262 (fun hlt => by rcases hO.sM with hq | hq; exact hq; omega)
       have hEK : EntK S w0.heap.size w259 (EntT.mk c r u183 l ts) := ⟨row_lows hr276 (Nat.zero_le _), InS.low hr276 (by omega), hlen, hen.1, hts.1, hts.2, hen.2.1, hen.2.2⟩
       have hEs := (EntsK.take hE284 i.toNat).snoc hEK
       have hlt : (L.take i.toNat).length = i.toNat := by rw [List.length_take]; omega
       have hdl : (L.drop i.toNat).length = L.length - i.toNat := List.length_drop
       have hfs := findN_snoc (A := L.take i.toNat) (e := (EntT.mk c r u183 l ts)) hfn
       exact ⟨v210, u183, rfl, ⟨hk289, ⟨_, hm260.eq ((by rw [delN_end hO.uq (by omega), hfs, hlt, Int.toNat_of_nonneg (by omega)]; rfl)) (Nat.le_refl _)⟩, (row_eq hr288 (by first | rfl | simp)), hEs, hO.sb, hO.sM, ((show InS (S) w0.heap.size (subV u 0 ((i).toNat) 4) from fun qi hqi => hO.su qi ((cut_block hr178 ((i).toNat)) ▸ hqi)).went hwt213 (by omega)), ((hO.uq.take _).snoc hfn), (by rw [List.length_append, hlt]; simp; omega)⟩, trivial, hB290⟩
      ·
       refine dr_op (i := 8) h177 rfl rfl rfl rfl (op_call (args := #[.agg #[.int .i64 c, .int .i64 r, v, .int .u64 ts]]) (R := fun res xw => ∃ u : Value, res = .agg #[.int .i64 c, .int .i64 r, u, .int .u64 ts] ∧ xw.ownsRow w48.heap.size 127 3 u l.length (l.flatMap opE) ∧ Below w48.heap.size w48 xw) rfl rfl rfl (by kernel_rfl) (by kernel_rfl) (Try.call81 _ _) (freshEntry_any c r v l ts w48 (sl_butN hs hB54 hvS) (by first | omega | (simp; done) | (simp; omega))) (by rintro e x ⟨u, rfl, hq294, hb295⟩; exact ⟨_, rfl, ⟨u, rfl, hq294, hb295⟩⟩)) ?_ ?_; clear h177
       ·
        rintro _ w292 ⟨u293, rfl, hq294, hb295⟩
        have hz296 := hb295.size
        have hl297 := sl_len (row_sl hq294 opE_len)
        have hB298 := fbU_call hB54 hb295
        have hk299 := hk55.below hb295
        exact ⟨hB298, hk299⟩
       rintro _ w292 a291 ⟨u293, rfl, hq294, hb295⟩ h291
       have hz296 := hb295.size
       have hl297 := sl_len (row_sl hq294 opE_len)
       have hB298 := fbU_call hB54 hb295
       have hk299 := hk55.below hb295
       refine dr_many [6, 9] (by kernel_rfl) (by simp) ⟨?_, ?_, trivial⟩
       ·
        have hr300 := row_kept_new hf35 hg49
        have hr301 := row_kept_new hr300 (below_grown hb295)
        have hr302 := row_cut hr301 entE_len ((i).toNat) (by omega) (.inr trivial)
        refine dr_opVal (i := 6) (v := subV u 0 ((i).toNat) 4) h291 rfl rfl rfl rfl (by kernel_rfl) rfl (rn_sliceTo rfl rfl rfl Try.underlying39 Try.sizeOf47 (row_sl hr301 entE_len) (by omega) (by omega)) ⟨hB298, hk299⟩ (fun a303 h303 => ?_); clear h291
        refine d1 9 h303 rfl rfl (op_new (v := fun N => .slice (some ⟨N, 0, none⟩) 1 1) (T := 47) (cs := #[.int .i64 c, .int .i64 r, u293, .int .u64 ts]) (by kernel_rfl) (by kernel_rfl) (by kernel_rfl)) ?_ ?_; clear h303
        ·
         rintro _ w305 ⟨N306, rfl, hN309, hz310, hk308, hg307⟩
         have ha311 := row_fresh hr301 hN309
         have hu312 := row_under hr301 hN309
         have ha313 := row_fresh hq294 hN309
         have hu314 := row_under hq294 hN309
         have ha315 := row_fresh hr302 hN309
         have hu316 := row_under hr302 hN309
         have hz317 := hg307.size
         have hB318 := fbU_new hB298 hg307
         have hk319 := hk299.kept hg307 (by simp)
         exact ⟨hB318, hk319⟩
        rintro _ w305 a304 ⟨N306, rfl, hN309, hz310, hk308, hg307⟩ h304
        have ha311 := row_fresh hr301 hN309
        have hu312 := row_under hr301 hN309
        have ha313 := row_fresh hq294 hN309
        have hu314 := row_under hq294 hN309
        have ha315 := row_fresh hr302 hN309
        have hu316 := row_under hr302 hN309
        have hz317 := hg307.size
        try dsimp only at h304
        have hB318 := fbU_new hB298 hg307
        have hk319 := hk299.kept hg307 (by simp)
        have hr326 := row_kept_new hr302 hg307
        have hr327 := row_kept_new hq294 hg307
        refine d1 10 h304 rfl rfl (op_appendF rfl 0 47 (z := .agg #[.int .i64 0, .int .i64 0, .slice none 0 0, .int .u64 0]) (size := 4) (bytes := 48) Try.underlying39 (by kernel_rfl) rfl rfl rfl hr326 rfl hk308 rfl (all_cons rfl (all_cons rfl (all_cons (row_one hr327) (all_cons rfl all_nil)))) (by first | omega | (simp only [List.length_nil, List.length_append, List.length_cons, List.length_take, List.length_drop]; omega)) (by first | omega | (simp only [List.length_nil, List.length_append, List.length_cons, List.length_take, List.length_drop]; omega)) (by omega)) ?_ ?_; clear h304
        ·
         rintro v322 w321 ⟨hr323, hwt325, hg324⟩
         have hr323' : w321.ownsRow 0 47 4 v322 ((L.take ((i).toNat) ++ [(EntT.mk c r u293 l ts)]).length) ((L.take ((i).toNat) ++ [(EntT.mk c r u293 l ts)]).flatMap entE) := row_push (y := (EntT.mk c r u293 l ts)) hr323 rfl rfl; clear hr323
         have hz328 := hg324.size
         have hB329 := fbU_row hB318 (show InS (S) w0.heap.size (subV u 0 ((i).toNat) 4) from fun qi hqi => hO.su qi ((cut_block hr301 ((i).toNat)) ▸ hqi)) hg324
         have hk330 := hk319.kept hg324 ((fun eq => ha14 ((cut_block hr301 ((i).toNat)) ▸ eq)))
         exact ⟨hB329, hk330⟩
        rintro v322 w321 a320 ⟨hr323, hwt325, hg324⟩ h320
        have hr323' : w321.ownsRow 0 47 4 v322 ((L.take ((i).toNat) ++ [(EntT.mk c r u293 l ts)]).length) ((L.take ((i).toNat) ++ [(EntT.mk c r u293 l ts)]).flatMap entE) := row_push (y := (EntT.mk c r u293 l ts)) hr323 rfl rfl; clear hr323
        have hz328 := hg324.size
        have hB329 := fbU_row hB318 (show InS (S) w0.heap.size (subV u 0 ((i).toNat) 4) from fun qi hqi => hO.su qi ((cut_block hr301 ((i).toNat)) ▸ hqi)) hg324
        have hk330 := hk319.kept hg324 ((fun eq => ha14 ((cut_block hr301 ((i).toNat)) ▸ eq)))
        refine dk0 11 (v := pt b 0) h320 rfl rfl ⟨hB329, hk330⟩ fun a331 h331 => ?_; clear h320
        refine dk0 12 (v := pt b 1) h331 rfl rfl ⟨hB329, hk330⟩ fun a332 h332 => ?_; clear h331
        have hk338 := hk61.below hb295
        have hk339 := hk338.kept hg307 (by simp)
        have hk340 := hk339.kept hg324 (own_neT hr326 hk339 (by decide))
        refine d1D 13 h332 rfl rfl (op_store1 rfl rfl rfl (row_one hr323') Try.sizeOf39 hk340 rfl) ?_ ?_; clear h332
        ·
         rintro _ w334 ⟨hk335, hz336, hg337⟩
         have hk335' : Blk w334 b 67 #[.bool true, v322, .map (some M)] := hk335; clear hk335
         have hz341 := hg337.size
         have hB342 := fbU_at hB329 hg337 (fun hlt => by rcases hO.sb with hq | hq; exact hq; omega)
         have hk343 := hk330.kept hg337 (by simp; omega)
         exact ⟨hB342, hk343⟩
        rintro _ w334 a333 ⟨hk335, hz336, hg337⟩ h333
        have hk335' : Blk w334 b 67 #[.bool true, v322, .map (some M)] := hk335; clear hk335
        have hz341 := hg337.size
        refine dr_done (by kernel_rfl) ?_
        refine co_then ?_
        refine dr_gen (fun x => But (S) w0 x ∧ Blk x N9 47 #[.int .i64 c, .int .i64 r, v, .int .u64 ts] ∧ Blk x b 67 #[.bool true, v322, .map (some M)]) (by kernel_rfl) (fun w342 hg343 => ?_) (fun w342 hg343 => ?_)
        ·
         have hz344 := hg343.size
         have hB345 := fbU_at hB329 hg337 (fun hlt => by rcases hO.sb with hq | hq; exact hq; omega)
         have hB346 := fbU_new hB345 hg343
         have hk347 := hk330.kept hg337 (by simp; omega)
         have hk348 := hk347.kept hg343 (by simp)
         have hk349 := hk335'.kept hg343 (by simp)
         exact ⟨hB346, hk348, hk349⟩
        have hz350 := hg343.size
        have hB351 := fbU_at hB329 hg337 (fun hlt => by rcases hO.sb with hq | hq; exact hq; omega)
        have hB352 := fbU_new hB351 hg343
        have hk353 := hk330.kept hg337 (by simp; omega)
        have hk354 := hk353.kept hg343 (by simp)
        have hk355 := hk335'.kept hg343 (by simp)
        refine dk0 0 (v := pt b 0) h333 rfl rfl ⟨hB352, hk354, hk355⟩ fun a356 h356 => ?_; clear h333
        refine dk0 1 (v := pt b 0) h356 rfl rfl ⟨hB352, hk354, hk355⟩ fun a357 h357 => ?_; clear h356
        refine dk0 2 (v := pt b 2) h357 rfl rfl ⟨hB352, hk354, hk355⟩ fun a358 h358 => ?_; clear h357
        refine dk 3 (v := .map (some M)) h358 rfl rfl ⟨hB352, hk354, hk355⟩ (fun x hx => (rn_load1 rfl rfl Try.isAgg65 (hx.2.2.cell rfl))) fun a359 h359 => ?_; clear h358
        refine dk 4 (v := .agg #[.int .i64 c, .int .i64 r, v, .int .u64 ts]) h359 rfl rfl ⟨hB352, hk354, hk355⟩ (fun x hx => (rn_loadN rfl rfl Try.underlying47 rfl (by kernel_rfl) hx.2.1.all)) fun a360 h360 => ?_; clear h359
        refine dk0 6 (v := .int .i64 i) h360 rfl rfl ⟨hB352, hk354, hk355⟩ fun a361 h361 => ?_; clear h360
        refine dk0 7 (v := .agg #[.int .i64 i]) h361 rfl rfl ⟨hB352, hk354, hk355⟩ fun a362 h362 => ?_; clear h361
        refine d1 5 h362 rfl rfl (op_call (args := #[.agg #[.int .i64 c, .int .i64 r, v, .int .u64 ts]]) (R := fun res xw => res = .agg #[.int .i64 c, .int .i64 r] ∧ Below w342.heap.size w342 xw) rfl rfl rfl (by kernel_rfl) (by kernel_rfl) (Try.call87 _ _) (lname_any c r v ts w342 ) (by rintro e x ⟨rfl, hb365⟩; exact ⟨_, rfl, ⟨rfl, hb365⟩⟩)) ?_ ?_; clear h362
        ·
         rintro _ w364 ⟨rfl, hb365⟩
         have hz366 := hb365.size
         have hB367 := fbU_call hB352 hb365
         have hk368 := hk354.below hb365
         have hk369 := hk355.below hb365
         exact ⟨hB367, hk368, hk369⟩
        rintro _ w364 a363 ⟨rfl, hb365⟩ h363
        have hz366 := hb365.size
        have hB367 := fbU_call hB352 hb365
        have hk368 := hk354.below hb365
        have hk369 := hk355.below hb365
        have hM375 := hf37.kept hg49 (by simp)
        have hM376 := hM375.kept (below_grown hb295) (by simp)
        have hM377 := hM376.kept hg307 (by simp)
        have hM378 := hM377.kept hg324 (hM377.row hr326)
        have hM379 := hM378.kept hg337 (by simp; omega)
        have hM380 := hM379.kept hg343 (by simp)
        have hM381 := hM380.kept (below_grown hb365) (by simp)
        refine d1D 8 h363 rfl rfl (op_updateO (a := (c, r)) (v := i) nm_kl rfl rfl rfl rfl Try.underlying65 hM381) ?_ ?_; clear h363
        ·
         rintro _ w371 ⟨hm372, hz373, hg374⟩
         have hz382 := hg374.size
         have hl383 := hm372.lt
         have hB384 := fbU_at hB367 hg374 (fun hlt => by rcases hO.sM with hq | hq; exact hq; omega)
         have hk385 := hk368.kept hg374 (by simp; omega)
         have hk386 := hk369.kept hg374 (by simp; omega)
         exact ⟨hB384, hk385, hk386⟩
        rintro _ w371 a370 ⟨hm372, hz373, hg374⟩ h370
        have hz382 := hg374.size
        have hl383 := hm372.lt
        refine dr_done (by kernel_rfl) ?_
        refine co_ret0n h370 rfl ?_
        have hr384 := row_kept_row hr327 hr326 hg324 (by decide)
        have hr385 := row_kept_at hr384 hg337 (own_neT hr384 hk340 (by decide))
        have hr386 := row_kept_new hr385 hg343
        have hr387 := row_kept_new hr386 (below_grown hb365)
        have hr388 := row_kept_at hr387 hg374 (hM381.row hr387)
        have hE389 := hf36.new hg49
        have hE390 := hE389.new (below_grown hb295)
        have hE391 := hE390.new hg307
        have hE392 := hE391.row hr326 (by decide) hg324
        have hE393 := hE392.blk hk340 (by decide) hg337
        have hE394 := hE393.new hg343
        have hE395 := hE394.new (below_grown hb365)
        have hE396 := hE395.map hM381 hg374
        have hr397 := row_kept_at hr323' hg337 (own_neT hr323' hk340 (by decide))
        have hr398 := row_kept_new hr397 hg343
        have hr399 := row_kept_new hr398 (below_grown hb365)
        have hr400 := row_kept_at hr399 hg374 (hM381.row hr399)
        have hk401 := hk369.kept hg374 (by simp; omega)
        have hB402 := fbU_at hB367 hg374 (fun hlt => by rcases hO.sM with hq | hq; exact hq; omega)
        have hEK : EntK S w0.heap.size w371 (EntT.mk c r u293 l ts) := ⟨row_lows hr388 (Nat.zero_le _), InS.low hr388 (by omega), hlen, hen.1, hts.1, hts.2, hen.2.1, hen.2.2⟩
        have hEs := (EntsK.take hE396 i.toNat).snoc hEK
        have hlt : (L.take i.toNat).length = i.toNat := by rw [List.length_take]; omega
        have hdl : (L.drop i.toNat).length = L.length - i.toNat := List.length_drop
        have hfs := findN_snoc (A := L.take i.toNat) (e := (EntT.mk c r u293 l ts)) hfn
        exact ⟨v322, u293, rfl, ⟨hk401, ⟨_, hm372.eq ((by rw [delN_end hO.uq (by omega), hfs, hlt, Int.toNat_of_nonneg (by omega)]; rfl)) (Nat.le_refl _)⟩, (row_eq hr400 (by first | rfl | simp)), hEs, hO.sb, hO.sM, ((show InS (S) w0.heap.size (subV u 0 ((i).toNat) 4) from fun qi hqi => hO.su qi ((cut_block hr301 ((i).toNat)) ▸ hqi)).went hwt325 (by omega)), ((hO.uq.take _).snoc hfn), (by rw [List.length_append, hlt]; simp; omega)⟩, trivial, hB402⟩
       ·
        refine dr_op (i := 9) h291 rfl rfl rfl rfl (op_new (v := fun N => .slice (some ⟨N, 0, none⟩) 1 1) (T := 47) (cs := #[.int .i64 c, .int .i64 r, u293, .int .u64 ts]) (by kernel_rfl) (by kernel_rfl) (by kernel_rfl)) ?_ ?_; clear h291
        ·
         rintro _ w404 ⟨N405, rfl, hN408, hz409, hk407, hg406⟩
         have hr411 := row_kept_new hf35 hg49
         have hr412 := row_kept_new hr411 (below_grown hb295)
         have ha410 := row_fresh hr412 hN408
         have hu413 := row_under hr412 hN408
         have ha414 := row_fresh hq294 hN408
         have hu415 := row_under hq294 hN408
         have hz416 := hg406.size
         have hB417 := fbU_new hB298 hg406
         have hk418 := hk299.kept hg406 (by simp)
         exact ⟨hB417, hk418⟩
        rintro _ w404 a403 ⟨N405, rfl, hN408, hz409, hk407, hg406⟩ h403
        have hr411 := row_kept_new hf35 hg49
        have hr412 := row_kept_new hr411 (below_grown hb295)
        have ha410 := row_fresh hr412 hN408
        have hu413 := row_under hr412 hN408
        have ha414 := row_fresh hq294 hN408
        have hu415 := row_under hq294 hN408
        have hz416 := hg406.size
        try dsimp only at h403
        have hB417 := fbU_new hB298 hg406
        have hk418 := hk299.kept hg406 (by simp)
        refine dr_many [6] (by kernel_rfl) (by simp) ⟨?_, trivial⟩
        ·
         have hr419 := row_kept_new hr412 hg406
         have hr420 := row_cut hr419 entE_len ((i).toNat) (by omega) (.inr trivial)
         refine dr_opVal (i := 6) (v := subV u 0 ((i).toNat) 4) h403 rfl rfl rfl rfl (by kernel_rfl) rfl (rn_sliceTo rfl rfl rfl Try.underlying39 Try.sizeOf47 (row_sl hr419 entE_len) (by omega) (by omega)) ⟨hB417, hk418⟩ (fun a421 h421 => ?_); clear h403
         have hr428 := row_kept_new hq294 hg406
         refine d1 10 h421 rfl rfl (op_appendF rfl 0 47 (z := .agg #[.int .i64 0, .int .i64 0, .slice none 0 0, .int .u64 0]) (size := 4) (bytes := 48) Try.underlying39 (by kernel_rfl) rfl rfl rfl hr420 rfl hk407 rfl (all_cons rfl (all_cons rfl (all_cons (row_one hr428) (all_cons rfl all_nil)))) (by first | omega | (simp only [List.length_nil, List.length_append, List.length_cons, List.length_take, List.length_drop]; omega)) (by first | omega | (simp only [List.length_nil, List.length_append, List.length_cons, List.length_take, List.length_drop]; omega)) (by omega)) ?_ ?_; clear h421
         ·
          rintro v424 w423 ⟨hr425, hwt427, hg426⟩
          have hr425' : w423.ownsRow 0 47 4 v424 ((L.take ((i).toNat) ++ [(EntT.mk c r u293 l ts)]).length) ((L.take ((i).toNat) ++ [(EntT.mk c r u293 l ts)]).flatMap entE) := row_push (y := (EntT.mk c r u293 l ts)) hr425 rfl rfl; clear hr425
          have hz429 := hg426.size
          have hB430 := fbU_row hB417 (show InS (S) w0.heap.size (subV u 0 ((i).toNat) 4) from fun qi hqi => hO.su qi ((cut_block hr419 ((i).toNat)) ▸ hqi)) hg426
          have hk431 := hk418.kept hg426 ((fun eq => ha14 ((cut_block hr419 ((i).toNat)) ▸ eq)))
          exact ⟨hB430, hk431⟩
         rintro v424 w423 a422 ⟨hr425, hwt427, hg426⟩ h422
         have hr425' : w423.ownsRow 0 47 4 v424 ((L.take ((i).toNat) ++ [(EntT.mk c r u293 l ts)]).length) ((L.take ((i).toNat) ++ [(EntT.mk c r u293 l ts)]).flatMap entE) := row_push (y := (EntT.mk c r u293 l ts)) hr425 rfl rfl; clear hr425
         have hz429 := hg426.size
         have hB430 := fbU_row hB417 (show InS (S) w0.heap.size (subV u 0 ((i).toNat) 4) from fun qi hqi => hO.su qi ((cut_block hr419 ((i).toNat)) ▸ hqi)) hg426
         have hk431 := hk418.kept hg426 ((fun eq => ha14 ((cut_block hr419 ((i).toNat)) ▸ eq)))
         refine dk0 11 (v := pt b 0) h422 rfl rfl ⟨hB430, hk431⟩ fun a432 h432 => ?_; clear h422
         refine dk0 12 (v := pt b 1) h432 rfl rfl ⟨hB430, hk431⟩ fun a433 h433 => ?_; clear h432
         have hk439 := hk61.below hb295
         have hk440 := hk439.kept hg406 (by simp)
         have hk441 := hk440.kept hg426 (own_neT hr420 hk440 (by decide))
         refine d1D 13 h433 rfl rfl (op_store1 rfl rfl rfl (row_one hr425') Try.sizeOf39 hk441 rfl) ?_ ?_; clear h433
         ·
          rintro _ w435 ⟨hk436, hz437, hg438⟩
          have hk436' : Blk w435 b 67 #[.bool true, v424, .map (some M)] := hk436; clear hk436
          have hz442 := hg438.size
          have hB443 := fbU_at hB430 hg438 (fun hlt => by rcases hO.sb with hq | hq; exact hq; omega)
          have hk444 := hk431.kept hg438 (by simp; omega)
          exact ⟨hB443, hk444⟩
         rintro _ w435 a434 ⟨hk436, hz437, hg438⟩ h434
         have hk436' : Blk w435 b 67 #[.bool true, v424, .map (some M)] := hk436; clear hk436
         have hz442 := hg438.size
         refine dr_done (by kernel_rfl) ?_
         refine co_then ?_
         refine dr_gen (fun x => But (S) w0 x ∧ Blk x N9 47 #[.int .i64 c, .int .i64 r, v, .int .u64 ts] ∧ Blk x b 67 #[.bool true, v424, .map (some M)]) (by kernel_rfl) (fun w443 hg444 => ?_) (fun w443 hg444 => ?_)
         ·
          have hz445 := hg444.size
          have hB446 := fbU_at hB430 hg438 (fun hlt => by rcases hO.sb with hq | hq; exact hq; omega)
          have hB447 := fbU_new hB446 hg444
          have hk448 := hk431.kept hg438 (by simp; omega)
          have hk449 := hk448.kept hg444 (by simp)
          have hk450 := hk436'.kept hg444 (by simp)
          exact ⟨hB447, hk449, hk450⟩
         have hz451 := hg444.size
         have hB452 := fbU_at hB430 hg438 (fun hlt => by rcases hO.sb with hq | hq; exact hq; omega)
         have hB453 := fbU_new hB452 hg444
         have hk454 := hk431.kept hg438 (by simp; omega)
         have hk455 := hk454.kept hg444 (by simp)
         have hk456 := hk436'.kept hg444 (by simp)
         refine dk0 0 (v := pt b 0) h434 rfl rfl ⟨hB453, hk455, hk456⟩ fun a457 h457 => ?_; clear h434
         refine dk0 1 (v := pt b 0) h457 rfl rfl ⟨hB453, hk455, hk456⟩ fun a458 h458 => ?_; clear h457
         refine dk0 2 (v := pt b 2) h458 rfl rfl ⟨hB453, hk455, hk456⟩ fun a459 h459 => ?_; clear h458
         refine dk 3 (v := .map (some M)) h459 rfl rfl ⟨hB453, hk455, hk456⟩ (fun x hx => (rn_load1 rfl rfl Try.isAgg65 (hx.2.2.cell rfl))) fun a460 h460 => ?_; clear h459
         refine dk 4 (v := .agg #[.int .i64 c, .int .i64 r, v, .int .u64 ts]) h460 rfl rfl ⟨hB453, hk455, hk456⟩ (fun x hx => (rn_loadN rfl rfl Try.underlying47 rfl (by kernel_rfl) hx.2.1.all)) fun a461 h461 => ?_; clear h460
         refine dk0 6 (v := .int .i64 i) h461 rfl rfl ⟨hB453, hk455, hk456⟩ fun a462 h462 => ?_; clear h461
         refine dk0 7 (v := .agg #[.int .i64 i]) h462 rfl rfl ⟨hB453, hk455, hk456⟩ fun a463 h463 => ?_; clear h462
         refine d1 5 h463 rfl rfl (op_call (args := #[.agg #[.int .i64 c, .int .i64 r, v, .int .u64 ts]]) (R := fun res xw => res = .agg #[.int .i64 c, .int .i64 r] ∧ Below w443.heap.size w443 xw) rfl rfl rfl (by kernel_rfl) (by kernel_rfl) (Try.call87 _ _) (lname_any c r v ts w443 ) (by rintro e x ⟨rfl, hb466⟩; exact ⟨_, rfl, ⟨rfl, hb466⟩⟩)) ?_ ?_; clear h463
         ·
          rintro _ w465 ⟨rfl, hb466⟩
          have hz467 := hb466.size
          have hB468 := fbU_call hB453 hb466
          have hk469 := hk455.below hb466
          have hk470 := hk456.below hb466
          exact ⟨hB468, hk469, hk470⟩
         rintro _ w465 a464 ⟨rfl, hb466⟩ h464
         have hz467 := hb466.size
         have hB468 := fbU_call hB453 hb466
         have hk469 := hk455.below hb466
         have hk470 := hk456.below hb466
         have hM476 := hf37.kept hg49 (by simp)
         have hM477 := hM476.kept (below_grown hb295) (by simp)
         have hM478 := hM477.kept hg406 (by simp)
         have hM479 := hM478.kept hg426 (hM478.row hr420)
         have hM480 := hM479.kept hg438 (by simp; omega)
         have hM481 := hM480.kept hg444 (by simp)
         have hM482 := hM481.kept (below_grown hb466) (by simp)
         refine d1D 8 h464 rfl rfl (op_updateO (a := (c, r)) (v := i) nm_kl rfl rfl rfl rfl Try.underlying65 hM482) ?_ ?_; clear h464
         ·
          rintro _ w472 ⟨hm473, hz474, hg475⟩
          have hz483 := hg475.size
          have hl484 := hm473.lt
          have hB485 := fbU_at hB468 hg475 (fun hlt => by rcases hO.sM with hq | hq; exact hq; omega)
          have hk486 := hk469.kept hg475 (by simp; omega)
          have hk487 := hk470.kept hg475 (by simp; omega)
          exact ⟨hB485, hk486, hk487⟩
         rintro _ w472 a471 ⟨hm473, hz474, hg475⟩ h471
         have hz483 := hg475.size
         have hl484 := hm473.lt
         refine dr_done (by kernel_rfl) ?_
         refine co_ret0n h471 rfl ?_
         have hr485 := row_kept_row hr428 hr420 hg426 (by decide)
         have hr486 := row_kept_at hr485 hg438 (own_neT hr485 hk441 (by decide))
         have hr487 := row_kept_new hr486 hg444
         have hr488 := row_kept_new hr487 (below_grown hb466)
         have hr489 := row_kept_at hr488 hg475 (hM482.row hr488)
         have hE490 := hf36.new hg49
         have hE491 := hE490.new (below_grown hb295)
         have hE492 := hE491.new hg406
         have hE493 := hE492.row hr420 (by decide) hg426
         have hE494 := hE493.blk hk441 (by decide) hg438
         have hE495 := hE494.new hg444
         have hE496 := hE495.new (below_grown hb466)
         have hE497 := hE496.map hM482 hg475
         have hr498 := row_kept_at hr425' hg438 (own_neT hr425' hk441 (by decide))
         have hr499 := row_kept_new hr498 hg444
         have hr500 := row_kept_new hr499 (below_grown hb466)
         have hr501 := row_kept_at hr500 hg475 (hM482.row hr500)
         have hk502 := hk470.kept hg475 (by simp; omega)
         have hB503 := fbU_at hB468 hg475 (fun hlt => by rcases hO.sM with hq | hq; exact hq; omega)
         have hEK : EntK S w0.heap.size w472 (EntT.mk c r u293 l ts) := ⟨row_lows hr489 (Nat.zero_le _), InS.low hr489 (by omega), hlen, hen.1, hts.1, hts.2, hen.2.1, hen.2.2⟩
         have hEs := (EntsK.take hE497 i.toNat).snoc hEK
         have hlt : (L.take i.toNat).length = i.toNat := by rw [List.length_take]; omega
         have hdl : (L.drop i.toNat).length = L.length - i.toNat := List.length_drop
         have hfs := findN_snoc (A := L.take i.toNat) (e := (EntT.mk c r u293 l ts)) hfn
         exact ⟨v424, u293, rfl, ⟨hk502, ⟨_, hm473.eq ((by rw [delN_end hO.uq (by omega), hfs, hlt, Int.toNat_of_nonneg (by omega)]; rfl)) (Nat.le_refl _)⟩, (row_eq hr501 (by first | rfl | simp)), hEs, hO.sb, hO.sM, ((show InS (S) w0.heap.size (subV u 0 ((i).toNat) 4) from fun qi hqi => hO.su qi ((cut_block hr419 ((i).toNat)) ▸ hqi)).went hwt427 (by omega)), ((hO.uq.take _).snoc hfn), (by rw [List.length_append, hlt]; simp; omega)⟩, trivial, hB503⟩
    ·
     refine dr_opVal (i := 7) (v := .agg #[.int .i64 c, .int .i64 r, v, .int .u64 ts]) h60 rfl rfl rfl rfl (by kernel_rfl) rfl (rn_loadN rfl rfl Try.underlying47 rfl (by kernel_rfl) hk55.all) ⟨hB54, hk55⟩ (fun a504 h504 => ?_); clear h60
     refine dr_many [4, 8] (by kernel_rfl) (by simp) ⟨?_, ?_, trivial⟩
     ·
      have hk505 := hk39.kept hg49 (by simp)
      refine dr_opVal (i := 4) (v := u) h504 rfl rfl rfl rfl (by kernel_rfl) rfl (rn_load1 rfl rfl Try.isAgg39 (hk505.cell rfl)) ⟨hB54, hk55⟩ (fun a506 h506 => ?_); clear h504
      refine dr_many [6, 8] (by kernel_rfl) (by simp) ⟨?_, ?_, trivial⟩
      ·
       have hr507 := row_kept_new hf35 hg49
       have hr508 := row_cut hr507 entE_len ((i).toNat) (by omega) (.inr trivial)
       refine dr_opVal (i := 6) (v := subV u 0 ((i).toNat) 4) h506 rfl rfl rfl rfl (by kernel_rfl) rfl (rn_sliceTo rfl rfl rfl Try.underlying39 Try.sizeOf47 (row_sl hr507 entE_len) (by omega) (by omega)) ⟨hB54, hk55⟩ (fun a509 h509 => ?_); clear h506
       refine d1 8 h509 rfl rfl (op_call (args := #[.agg #[.int .i64 c, .int .i64 r, v, .int .u64 ts]]) (R := fun res xw => ∃ u : Value, res = .agg #[.int .i64 c, .int .i64 r, u, .int .u64 ts] ∧ xw.ownsRow w48.heap.size 127 3 u l.length (l.flatMap opE) ∧ Below w48.heap.size w48 xw) rfl rfl rfl (by kernel_rfl) (by kernel_rfl) (Try.call81 _ _) (freshEntry_any c r v l ts w48 (sl_butN hs hB54 hvS) (by first | omega | (simp; done) | (simp; omega))) (by rintro e x ⟨u, rfl, hq513, hb514⟩; exact ⟨_, rfl, ⟨u, rfl, hq513, hb514⟩⟩)) ?_ ?_; clear h509
       ·
        rintro _ w511 ⟨u512, rfl, hq513, hb514⟩
        have hz515 := hb514.size
        have hl516 := sl_len (row_sl hq513 opE_len)
        have hB517 := fbU_call hB54 hb514
        have hk518 := hk55.below hb514
        exact ⟨hB517, hk518⟩
       rintro _ w511 a510 ⟨u512, rfl, hq513, hb514⟩ h510
       have hz515 := hb514.size
       have hl516 := sl_len (row_sl hq513 opE_len)
       have hB517 := fbU_call hB54 hb514
       have hk518 := hk55.below hb514
       refine d1 9 h510 rfl rfl (op_new (v := fun N => .slice (some ⟨N, 0, none⟩) 1 1) (T := 47) (cs := #[.int .i64 c, .int .i64 r, u512, .int .u64 ts]) (by kernel_rfl) (by kernel_rfl) (by kernel_rfl)) ?_ ?_; clear h510
       ·
        rintro _ w520 ⟨N521, rfl, hN524, hz525, hk523, hg522⟩
        have hr527 := row_kept_new hr507 (below_grown hb514)
        have ha526 := row_fresh hr527 hN524
        have hu528 := row_under hr527 hN524
        have hr530 := row_kept_new hr508 (below_grown hb514)
        have ha529 := row_fresh hr530 hN524
        have hu531 := row_under hr530 hN524
        have ha532 := row_fresh hq513 hN524
        have hu533 := row_under hq513 hN524
        have hz534 := hg522.size
        have hB535 := fbU_new hB517 hg522
        have hk536 := hk518.kept hg522 (by simp)
        exact ⟨hB535, hk536⟩
       rintro _ w520 a519 ⟨N521, rfl, hN524, hz525, hk523, hg522⟩ h519
       have hr527 := row_kept_new hr507 (below_grown hb514)
       have ha526 := row_fresh hr527 hN524
       have hu528 := row_under hr527 hN524
       have hr530 := row_kept_new hr508 (below_grown hb514)
       have ha529 := row_fresh hr530 hN524
       have hu531 := row_under hr530 hN524
       have ha532 := row_fresh hq513 hN524
       have hu533 := row_under hq513 hN524
       have hz534 := hg522.size
       try dsimp only at h519
       have hB535 := fbU_new hB517 hg522
       have hk536 := hk518.kept hg522 (by simp)
       have hr543 := row_kept_new hr530 hg522
       have hr544 := row_kept_new hq513 hg522
       refine d1 10 h519 rfl rfl (op_appendF rfl 0 47 (z := .agg #[.int .i64 0, .int .i64 0, .slice none 0 0, .int .u64 0]) (size := 4) (bytes := 48) Try.underlying39 (by kernel_rfl) rfl rfl rfl hr543 rfl hk523 rfl (all_cons rfl (all_cons rfl (all_cons (row_one hr544) (all_cons rfl all_nil)))) (by first | omega | (simp only [List.length_nil, List.length_append, List.length_cons, List.length_take, List.length_drop]; omega)) (by first | omega | (simp only [List.length_nil, List.length_append, List.length_cons, List.length_take, List.length_drop]; omega)) (by omega)) ?_ ?_; clear h519
       ·
        rintro v539 w538 ⟨hr540, hwt542, hg541⟩
        have hr540' : w538.ownsRow 0 47 4 v539 ((L.take ((i).toNat) ++ [(EntT.mk c r u512 l ts)]).length) ((L.take ((i).toNat) ++ [(EntT.mk c r u512 l ts)]).flatMap entE) := row_push (y := (EntT.mk c r u512 l ts)) hr540 rfl rfl; clear hr540
        have hz545 := hg541.size
        have hB546 := fbU_row hB535 (show InS (S) w0.heap.size (subV u 0 ((i).toNat) 4) from fun qi hqi => hO.su qi ((cut_block hr507 ((i).toNat)) ▸ hqi)) hg541
        have hk547 := hk536.kept hg541 ((fun eq => ha14 ((cut_block hr507 ((i).toNat)) ▸ eq)))
        exact ⟨hB546, hk547⟩
       rintro v539 w538 a537 ⟨hr540, hwt542, hg541⟩ h537
       have hr540' : w538.ownsRow 0 47 4 v539 ((L.take ((i).toNat) ++ [(EntT.mk c r u512 l ts)]).length) ((L.take ((i).toNat) ++ [(EntT.mk c r u512 l ts)]).flatMap entE) := row_push (y := (EntT.mk c r u512 l ts)) hr540 rfl rfl; clear hr540
       have hz545 := hg541.size
       have hB546 := fbU_row hB535 (show InS (S) w0.heap.size (subV u 0 ((i).toNat) 4) from fun qi hqi => hO.su qi ((cut_block hr507 ((i).toNat)) ▸ hqi)) hg541
       have hk547 := hk536.kept hg541 ((fun eq => ha14 ((cut_block hr507 ((i).toNat)) ▸ eq)))
       refine dk0 11 (v := pt b 0) h537 rfl rfl ⟨hB546, hk547⟩ fun a548 h548 => ?_; clear h537
       refine dk0 12 (v := pt b 1) h548 rfl rfl ⟨hB546, hk547⟩ fun a549 h549 => ?_; clear h548
       have hk555 := hk505.below hb514
       have hk556 := hk555.kept hg522 (by simp)
       have hk557 := hk556.kept hg541 (own_neT hr543 hk556 (by decide))
       refine d1D 13 h549 rfl rfl (op_store1 rfl rfl rfl (row_one hr540') Try.sizeOf39 hk557 rfl) ?_ ?_; clear h549
       ·
        rintro _ w551 ⟨hk552, hz553, hg554⟩
        have hk552' : Blk w551 b 67 #[.bool true, v539, .map (some M)] := hk552; clear hk552
        have hz558 := hg554.size
        have hB559 := fbU_at hB546 hg554 (fun hlt => by rcases hO.sb with hq | hq; exact hq; omega)
        have hk560 := hk547.kept hg554 (by simp; omega)
        exact ⟨hB559, hk560⟩
       rintro _ w551 a550 ⟨hk552, hz553, hg554⟩ h550
       have hk552' : Blk w551 b 67 #[.bool true, v539, .map (some M)] := hk552; clear hk552
       have hz558 := hg554.size
       refine dr_done (by kernel_rfl) ?_
       refine co_then ?_
       refine dr_gen (fun x => But (S) w0 x ∧ Blk x N9 47 #[.int .i64 c, .int .i64 r, v, .int .u64 ts] ∧ Blk x b 67 #[.bool true, v539, .map (some M)]) (by kernel_rfl) (fun w559 hg560 => ?_) (fun w559 hg560 => ?_)
       ·
        have hz561 := hg560.size
        have hB562 := fbU_at hB546 hg554 (fun hlt => by rcases hO.sb with hq | hq; exact hq; omega)
        have hB563 := fbU_new hB562 hg560
        have hk564 := hk547.kept hg554 (by simp; omega)
        have hk565 := hk564.kept hg560 (by simp)
        have hk566 := hk552'.kept hg560 (by simp)
        exact ⟨hB563, hk565, hk566⟩
       have hz567 := hg560.size
       have hB568 := fbU_at hB546 hg554 (fun hlt => by rcases hO.sb with hq | hq; exact hq; omega)
       have hB569 := fbU_new hB568 hg560
       have hk570 := hk547.kept hg554 (by simp; omega)
       have hk571 := hk570.kept hg560 (by simp)
       have hk572 := hk552'.kept hg560 (by simp)
       refine dk0 0 (v := pt b 0) h550 rfl rfl ⟨hB569, hk571, hk572⟩ fun a573 h573 => ?_; clear h550
       refine dk0 1 (v := pt b 0) h573 rfl rfl ⟨hB569, hk571, hk572⟩ fun a574 h574 => ?_; clear h573
       refine dk0 2 (v := pt b 2) h574 rfl rfl ⟨hB569, hk571, hk572⟩ fun a575 h575 => ?_; clear h574
       refine dk 3 (v := .map (some M)) h575 rfl rfl ⟨hB569, hk571, hk572⟩ (fun x hx => (rn_load1 rfl rfl Try.isAgg65 (hx.2.2.cell rfl))) fun a576 h576 => ?_; clear h575
       refine dk 4 (v := .agg #[.int .i64 c, .int .i64 r, v, .int .u64 ts]) h576 rfl rfl ⟨hB569, hk571, hk572⟩ (fun x hx => (rn_loadN rfl rfl Try.underlying47 rfl (by kernel_rfl) hx.2.1.all)) fun a577 h577 => ?_; clear h576
       refine dk0 6 (v := .int .i64 i) h577 rfl rfl ⟨hB569, hk571, hk572⟩ fun a578 h578 => ?_; clear h577
       refine dk0 7 (v := .agg #[.int .i64 i]) h578 rfl rfl ⟨hB569, hk571, hk572⟩ fun a579 h579 => ?_; clear h578
       refine d1 5 h579 rfl rfl (op_call (args := #[.agg #[.int .i64 c, .int .i64 r, v, .int .u64 ts]]) (R := fun res xw => res = .agg #[.int .i64 c, .int .i64 r] ∧ Below w559.heap.size w559 xw) rfl rfl rfl (by kernel_rfl) (by kernel_rfl) (Try.call87 _ _) (lname_any c r v ts w559 ) (by rintro e x ⟨rfl, hb582⟩; exact ⟨_, rfl, ⟨rfl, hb582⟩⟩)) ?_ ?_; clear h579
       ·
        rintro _ w581 ⟨rfl, hb582⟩
        have hz583 := hb582.size
        have hB584 := fbU_call hB569 hb582
        have hk585 := hk571.below hb582
        have hk586 := hk572.below hb582
        exact ⟨hB584, hk585, hk586⟩
       rintro _ w581 a580 ⟨rfl, hb582⟩ h580
       have hz583 := hb582.size
       have hB584 := fbU_call hB569 hb582
       have hk585 := hk571.below hb582
       have hk586 := hk572.below hb582
       have hM592 := hf37.kept hg49 (by simp)
       have hM593 := hM592.kept (below_grown hb514) (by simp)
       have hM594 := hM593.kept hg522 (by simp)
       have hM595 := hM594.kept hg541 (hM594.row hr543)
       have hM596 := hM595.kept hg554 (by simp; omega)
       have hM597 := hM596.kept hg560 (by simp)
       have hM598 := hM597.kept (below_grown hb582) (by simp)
       refine d1D 8 h580 rfl rfl (op_updateO (a := (c, r)) (v := i) nm_kl rfl rfl rfl rfl Try.underlying65 hM598) ?_ ?_; clear h580
       ·
        rintro _ w588 ⟨hm589, hz590, hg591⟩
        have hz599 := hg591.size
        have hl600 := hm589.lt
        have hB601 := fbU_at hB584 hg591 (fun hlt => by rcases hO.sM with hq | hq; exact hq; omega)
        have hk602 := hk585.kept hg591 (by simp; omega)
        have hk603 := hk586.kept hg591 (by simp; omega)
        exact ⟨hB601, hk602, hk603⟩
       rintro _ w588 a587 ⟨hm589, hz590, hg591⟩ h587
       have hz599 := hg591.size
       have hl600 := hm589.lt
       refine dr_done (by kernel_rfl) ?_
       refine co_ret0n h587 rfl ?_
       have hr601 := row_kept_row hr544 hr543 hg541 (by decide)
       have hr602 := row_kept_at hr601 hg554 (own_neT hr601 hk557 (by decide))
       have hr603 := row_kept_new hr602 hg560
       have hr604 := row_kept_new hr603 (below_grown hb582)
       have hr605 := row_kept_at hr604 hg591 (hM598.row hr604)
       have hE606 := hf36.new hg49
       have hE607 := hE606.new (below_grown hb514)
       have hE608 := hE607.new hg522
       have hE609 := hE608.row hr543 (by decide) hg541
       have hE610 := hE609.blk hk557 (by decide) hg554
       have hE611 := hE610.new hg560
       have hE612 := hE611.new (below_grown hb582)
       have hE613 := hE612.map hM598 hg591
       have hr614 := row_kept_at hr540' hg554 (own_neT hr540' hk557 (by decide))
       have hr615 := row_kept_new hr614 hg560
       have hr616 := row_kept_new hr615 (below_grown hb582)
       have hr617 := row_kept_at hr616 hg591 (hM598.row hr616)
       have hk618 := hk586.kept hg591 (by simp; omega)
       have hB619 := fbU_at hB584 hg591 (fun hlt => by rcases hO.sM with hq | hq; exact hq; omega)
       have hEK : EntK S w0.heap.size w588 (EntT.mk c r u512 l ts) := ⟨row_lows hr605 (Nat.zero_le _), InS.low hr605 (by omega), hlen, hen.1, hts.1, hts.2, hen.2.1, hen.2.2⟩
       have hEs := (EntsK.take hE613 i.toNat).snoc hEK
       have hlt : (L.take i.toNat).length = i.toNat := by rw [List.length_take]; omega
       have hdl : (L.drop i.toNat).length = L.length - i.toNat := List.length_drop
       have hfs := findN_snoc (A := L.take i.toNat) (e := (EntT.mk c r u512 l ts)) hfn
       exact ⟨v539, u512, rfl, ⟨hk618, ⟨_, hm589.eq ((by rw [delN_end hO.uq (by omega), hfs, hlt, Int.toNat_of_nonneg (by omega)]; rfl)) (Nat.le_refl _)⟩, (row_eq hr617 (by first | rfl | simp)), hEs, hO.sb, hO.sM, ((show InS (S) w0.heap.size (subV u 0 ((i).toNat) 4) from fun qi hqi => hO.su qi ((cut_block hr507 ((i).toNat)) ▸ hqi)).went hwt542 (by omega)), ((hO.uq.take _).snoc hfn), (by rw [List.length_append, hlt]; simp; omega)⟩, trivial, hB619⟩
      ·
       refine dr_op (i := 8) h506 rfl rfl rfl rfl (op_call (args := #[.agg #[.int .i64 c, .int .i64 r, v, .int .u64 ts]]) (R := fun res xw => ∃ u : Value, res = .agg #[.int .i64 c, .int .i64 r, u, .int .u64 ts] ∧ xw.ownsRow w48.heap.size 127 3 u l.length (l.flatMap opE) ∧ Below w48.heap.size w48 xw) rfl rfl rfl (by kernel_rfl) (by kernel_rfl) (Try.call81 _ _) (freshEntry_any c r v l ts w48 (sl_butN hs hB54 hvS) (by first | omega | (simp; done) | (simp; omega))) (by rintro e x ⟨u, rfl, hq623, hb624⟩; exact ⟨_, rfl, ⟨u, rfl, hq623, hb624⟩⟩)) ?_ ?_; clear h506
       ·
        rintro _ w621 ⟨u622, rfl, hq623, hb624⟩
        have hz625 := hb624.size
        have hl626 := sl_len (row_sl hq623 opE_len)
        have hB627 := fbU_call hB54 hb624
        have hk628 := hk55.below hb624
        exact ⟨hB627, hk628⟩
       rintro _ w621 a620 ⟨u622, rfl, hq623, hb624⟩ h620
       have hz625 := hb624.size
       have hl626 := sl_len (row_sl hq623 opE_len)
       have hB627 := fbU_call hB54 hb624
       have hk628 := hk55.below hb624
       refine dr_many [6, 9] (by kernel_rfl) (by simp) ⟨?_, ?_, trivial⟩
       ·
        have hr629 := row_kept_new hf35 hg49
        have hr630 := row_kept_new hr629 (below_grown hb624)
        have hr631 := row_cut hr630 entE_len ((i).toNat) (by omega) (.inr trivial)
        refine dr_opVal (i := 6) (v := subV u 0 ((i).toNat) 4) h620 rfl rfl rfl rfl (by kernel_rfl) rfl (rn_sliceTo rfl rfl rfl Try.underlying39 Try.sizeOf47 (row_sl hr630 entE_len) (by omega) (by omega)) ⟨hB627, hk628⟩ (fun a632 h632 => ?_); clear h620
        refine d1 9 h632 rfl rfl (op_new (v := fun N => .slice (some ⟨N, 0, none⟩) 1 1) (T := 47) (cs := #[.int .i64 c, .int .i64 r, u622, .int .u64 ts]) (by kernel_rfl) (by kernel_rfl) (by kernel_rfl)) ?_ ?_; clear h632
        ·
         rintro _ w634 ⟨N635, rfl, hN638, hz639, hk637, hg636⟩
         have ha640 := row_fresh hr630 hN638
         have hu641 := row_under hr630 hN638
         have ha642 := row_fresh hq623 hN638
         have hu643 := row_under hq623 hN638
         have ha644 := row_fresh hr631 hN638
         have hu645 := row_under hr631 hN638
         have hz646 := hg636.size
         have hB647 := fbU_new hB627 hg636
         have hk648 := hk628.kept hg636 (by simp)
         exact ⟨hB647, hk648⟩
        rintro _ w634 a633 ⟨N635, rfl, hN638, hz639, hk637, hg636⟩ h633
        have ha640 := row_fresh hr630 hN638
        have hu641 := row_under hr630 hN638
        have ha642 := row_fresh hq623 hN638
        have hu643 := row_under hq623 hN638
        have ha644 := row_fresh hr631 hN638
        have hu645 := row_under hr631 hN638
        have hz646 := hg636.size
        try dsimp only at h633
        have hB647 := fbU_new hB627 hg636
        have hk648 := hk628.kept hg636 (by simp)
        have hr655 := row_kept_new hr631 hg636
        have hr656 := row_kept_new hq623 hg636
        refine d1 10 h633 rfl rfl (op_appendF rfl 0 47 (z := .agg #[.int .i64 0, .int .i64 0, .slice none 0 0, .int .u64 0]) (size := 4) (bytes := 48) Try.underlying39 (by kernel_rfl) rfl rfl rfl hr655 rfl hk637 rfl (all_cons rfl (all_cons rfl (all_cons (row_one hr656) (all_cons rfl all_nil)))) (by first | omega | (simp only [List.length_nil, List.length_append, List.length_cons, List.length_take, List.length_drop]; omega)) (by first | omega | (simp only [List.length_nil, List.length_append, List.length_cons, List.length_take, List.length_drop]; omega)) (by omega)) ?_ ?_; clear h633
        ·
         rintro v651 w650 ⟨hr652, hwt654, hg653⟩
         have hr652' : w650.ownsRow 0 47 4 v651 ((L.take ((i).toNat) ++ [(EntT.mk c r u622 l ts)]).length) ((L.take ((i).toNat) ++ [(EntT.mk c r u622 l ts)]).flatMap entE) := row_push (y := (EntT.mk c r u622 l ts)) hr652 rfl rfl; clear hr652
         have hz657 := hg653.size
         have hB658 := fbU_row hB647 (show InS (S) w0.heap.size (subV u 0 ((i).toNat) 4) from fun qi hqi => hO.su qi ((cut_block hr630 ((i).toNat)) ▸ hqi)) hg653
         have hk659 := hk648.kept hg653 ((fun eq => ha14 ((cut_block hr630 ((i).toNat)) ▸ eq)))
         exact ⟨hB658, hk659⟩
        rintro v651 w650 a649 ⟨hr652, hwt654, hg653⟩ h649
        have hr652' : w650.ownsRow 0 47 4 v651 ((L.take ((i).toNat) ++ [(EntT.mk c r u622 l ts)]).length) ((L.take ((i).toNat) ++ [(EntT.mk c r u622 l ts)]).flatMap entE) := row_push (y := (EntT.mk c r u622 l ts)) hr652 rfl rfl; clear hr652
        have hz657 := hg653.size
        have hB658 := fbU_row hB647 (show InS (S) w0.heap.size (subV u 0 ((i).toNat) 4) from fun qi hqi => hO.su qi ((cut_block hr630 ((i).toNat)) ▸ hqi)) hg653
        have hk659 := hk648.kept hg653 ((fun eq => ha14 ((cut_block hr630 ((i).toNat)) ▸ eq)))
        refine dk0 11 (v := pt b 0) h649 rfl rfl ⟨hB658, hk659⟩ fun a660 h660 => ?_; clear h649
        refine dk0 12 (v := pt b 1) h660 rfl rfl ⟨hB658, hk659⟩ fun a661 h661 => ?_; clear h660
        have hk667 := hk505.below hb624
        have hk668 := hk667.kept hg636 (by simp)
        have hk669 := hk668.kept hg653 (own_neT hr655 hk668 (by decide))
        refine d1D 13 h661 rfl rfl (op_store1 rfl rfl rfl (row_one hr652') Try.sizeOf39 hk669 rfl) ?_ ?_; clear h661
        ·
         rintro _ w663 ⟨hk664, hz665, hg666⟩
         have hk664' : Blk w663 b 67 #[.bool true, v651, .map (some M)] := hk664; clear hk664
         have hz670 := hg666.size
         have hB671 := fbU_at hB658 hg666 (fun hlt => by rcases hO.sb with hq | hq; exact hq; omega)
         have hk672 := hk659.kept hg666 (by simp; omega)
         exact ⟨hB671, hk672⟩
        rintro _ w663 a662 ⟨hk664, hz665, hg666⟩ h662
        have hk664' : Blk w663 b 67 #[.bool true, v651, .map (some M)] := hk664; clear hk664
        have hz670 := hg666.size
        refine dr_done (by kernel_rfl) ?_
        refine co_then ?_
        refine dr_gen (fun x => But (S) w0 x ∧ Blk x N9 47 #[.int .i64 c, .int .i64 r, v, .int .u64 ts] ∧ Blk x b 67 #[.bool true, v651, .map (some M)]) (by kernel_rfl) (fun w671 hg672 => ?_) (fun w671 hg672 => ?_)
        ·
         have hz673 := hg672.size
         have hB674 := fbU_at hB658 hg666 (fun hlt => by rcases hO.sb with hq | hq; exact hq; omega)
         have hB675 := fbU_new hB674 hg672
         have hk676 := hk659.kept hg666 (by simp; omega)
         have hk677 := hk676.kept hg672 (by simp)
         have hk678 := hk664'.kept hg672 (by simp)
         exact ⟨hB675, hk677, hk678⟩
        have hz679 := hg672.size
        have hB680 := fbU_at hB658 hg666 (fun hlt => by rcases hO.sb with hq | hq; exact hq; omega)
        have hB681 := fbU_new hB680 hg672
        have hk682 := hk659.kept hg666 (by simp; omega)
        have hk683 := hk682.kept hg672 (by simp)
        have hk684 := hk664'.kept hg672 (by simp)
        refine dk0 0 (v := pt b 0) h662 rfl rfl ⟨hB681, hk683, hk684⟩ fun a685 h685 => ?_; clear h662
        refine dk0 1 (v := pt b 0) h685 rfl rfl ⟨hB681, hk683, hk684⟩ fun a686 h686 => ?_; clear h685
        refine dk0 2 (v := pt b 2) h686 rfl rfl ⟨hB681, hk683, hk684⟩ fun a687 h687 => ?_; clear h686
        refine dk 3 (v := .map (some M)) h687 rfl rfl ⟨hB681, hk683, hk684⟩ (fun x hx => (rn_load1 rfl rfl Try.isAgg65 (hx.2.2.cell rfl))) fun a688 h688 => ?_; clear h687
        refine dk 4 (v := .agg #[.int .i64 c, .int .i64 r, v, .int .u64 ts]) h688 rfl rfl ⟨hB681, hk683, hk684⟩ (fun x hx => (rn_loadN rfl rfl Try.underlying47 rfl (by kernel_rfl) hx.2.1.all)) fun a689 h689 => ?_; clear h688
        refine dk0 6 (v := .int .i64 i) h689 rfl rfl ⟨hB681, hk683, hk684⟩ fun a690 h690 => ?_; clear h689
        refine dk0 7 (v := .agg #[.int .i64 i]) h690 rfl rfl ⟨hB681, hk683, hk684⟩ fun a691 h691 => ?_; clear h690
        refine d1 5 h691 rfl rfl (op_call (args := #[.agg #[.int .i64 c, .int .i64 r, v, .int .u64 ts]]) (R := fun res xw => res = .agg #[.int .i64 c, .int .i64 r] ∧ Below w671.heap.size w671 xw) rfl rfl rfl (by kernel_rfl) (by kernel_rfl) (Try.call87 _ _) (lname_any c r v ts w671 ) (by rintro e x ⟨rfl, hb694⟩; exact ⟨_, rfl, ⟨rfl, hb694⟩⟩)) ?_ ?_; clear h691
        ·
         rintro _ w693 ⟨rfl, hb694⟩
         have hz695 := hb694.size
         have hB696 := fbU_call hB681 hb694
         have hk697 := hk683.below hb694
         have hk698 := hk684.below hb694
         exact ⟨hB696, hk697, hk698⟩
        rintro _ w693 a692 ⟨rfl, hb694⟩ h692
        have hz695 := hb694.size
        have hB696 := fbU_call hB681 hb694
        have hk697 := hk683.below hb694
        have hk698 := hk684.below hb694
        have hM704 := hf37.kept hg49 (by simp)
        have hM705 := hM704.kept (below_grown hb624) (by simp)
        have hM706 := hM705.kept hg636 (by simp)
        have hM707 := hM706.kept hg653 (hM706.row hr655)
        have hM708 := hM707.kept hg666 (by simp; omega)
        have hM709 := hM708.kept hg672 (by simp)
        have hM710 := hM709.kept (below_grown hb694) (by simp)
        refine d1D 8 h692 rfl rfl (op_updateO (a := (c, r)) (v := i) nm_kl rfl rfl rfl rfl Try.underlying65 hM710) ?_ ?_; clear h692
        ·
         rintro _ w700 ⟨hm701, hz702, hg703⟩
         have hz711 := hg703.size
         have hl712 := hm701.lt
         have hB713 := fbU_at hB696 hg703 (fun hlt => by rcases hO.sM with hq | hq; exact hq; omega)
         have hk714 := hk697.kept hg703 (by simp; omega)
         have hk715 := hk698.kept hg703 (by simp; omega)
         exact ⟨hB713, hk714, hk715⟩
        rintro _ w700 a699 ⟨hm701, hz702, hg703⟩ h699
        have hz711 := hg703.size
        have hl712 := hm701.lt
        refine dr_done (by kernel_rfl) ?_
        refine co_ret0n h699 rfl ?_
        have hr713 := row_kept_row hr656 hr655 hg653 (by decide)
        have hr714 := row_kept_at hr713 hg666 (own_neT hr713 hk669 (by decide))
        have hr715 := row_kept_new hr714 hg672
        have hr716 := row_kept_new hr715 (below_grown hb694)
        have hr717 := row_kept_at hr716 hg703 (hM710.row hr716)
        have hE718 := hf36.new hg49
        have hE719 := hE718.new (below_grown hb624)
        have hE720 := hE719.new hg636
        have hE721 := hE720.row hr655 (by decide) hg653
        have hE722 := hE721.blk hk669 (by decide) hg666
        have hE723 := hE722.new hg672
        have hE724 := hE723.new (below_grown hb694)
        have hE725 := hE724.map hM710 hg703
        have hr726 := row_kept_at hr652' hg666 (own_neT hr652' hk669 (by decide))
        have hr727 := row_kept_new hr726 hg672
        have hr728 := row_kept_new hr727 (below_grown hb694)
        have hr729 := row_kept_at hr728 hg703 (hM710.row hr728)
        have hk730 := hk698.kept hg703 (by simp; omega)
        have hB731 := fbU_at hB696 hg703 (fun hlt => by rcases hO.sM with hq | hq; exact hq; omega)
        have hEK : EntK S w0.heap.size w700 (EntT.mk c r u622 l ts) := ⟨row_lows hr717 (Nat.zero_le _), InS.low hr717 (by omega), hlen, hen.1, hts.1, hts.2, hen.2.1, hen.2.2⟩
        have hEs := (EntsK.take hE725 i.toNat).snoc hEK
        have hlt : (L.take i.toNat).length = i.toNat := by rw [List.length_take]; omega
        have hdl : (L.drop i.toNat).length = L.length - i.toNat := List.length_drop
        have hfs := findN_snoc (A := L.take i.toNat) (e := (EntT.mk c r u622 l ts)) hfn
        exact ⟨v651, u622, rfl, ⟨hk730, ⟨_, hm701.eq ((by rw [delN_end hO.uq (by omega), hfs, hlt, Int.toNat_of_nonneg (by omega)]; rfl)) (Nat.le_refl _)⟩, (row_eq hr729 (by first | rfl | simp)), hEs, hO.sb, hO.sM, ((show InS (S) w0.heap.size (subV u 0 ((i).toNat) 4) from fun qi hqi => hO.su qi ((cut_block hr630 ((i).toNat)) ▸ hqi)).went hwt654 (by omega)), ((hO.uq.take _).snoc hfn), (by rw [List.length_append, hlt]; simp; omega)⟩, trivial, hB731⟩
       ·
        refine dr_op (i := 9) h620 rfl rfl rfl rfl (op_new (v := fun N => .slice (some ⟨N, 0, none⟩) 1 1) (T := 47) (cs := #[.int .i64 c, .int .i64 r, u622, .int .u64 ts]) (by kernel_rfl) (by kernel_rfl) (by kernel_rfl)) ?_ ?_; clear h620
        ·
         rintro _ w733 ⟨N734, rfl, hN737, hz738, hk736, hg735⟩
         have hr740 := row_kept_new hf35 hg49
         have hr741 := row_kept_new hr740 (below_grown hb624)
         have ha739 := row_fresh hr741 hN737
         have hu742 := row_under hr741 hN737
         have ha743 := row_fresh hq623 hN737
         have hu744 := row_under hq623 hN737
         have hz745 := hg735.size
         have hB746 := fbU_new hB627 hg735
         have hk747 := hk628.kept hg735 (by simp)
         exact ⟨hB746, hk747⟩
        rintro _ w733 a732 ⟨N734, rfl, hN737, hz738, hk736, hg735⟩ h732
        have hr740 := row_kept_new hf35 hg49
        have hr741 := row_kept_new hr740 (below_grown hb624)
        have ha739 := row_fresh hr741 hN737
        have hu742 := row_under hr741 hN737
        have ha743 := row_fresh hq623 hN737
        have hu744 := row_under hq623 hN737
        have hz745 := hg735.size
        try dsimp only at h732
        have hB746 := fbU_new hB627 hg735
        have hk747 := hk628.kept hg735 (by simp)
        refine dr_many [6] (by kernel_rfl) (by simp) ⟨?_, trivial⟩
        ·
         have hr748 := row_kept_new hr741 hg735
         have hr749 := row_cut hr748 entE_len ((i).toNat) (by omega) (.inr trivial)
         refine dr_opVal (i := 6) (v := subV u 0 ((i).toNat) 4) h732 rfl rfl rfl rfl (by kernel_rfl) rfl (rn_sliceTo rfl rfl rfl Try.underlying39 Try.sizeOf47 (row_sl hr748 entE_len) (by omega) (by omega)) ⟨hB746, hk747⟩ (fun a750 h750 => ?_); clear h732
         have hr757 := row_kept_new hq623 hg735
         refine d1 10 h750 rfl rfl (op_appendF rfl 0 47 (z := .agg #[.int .i64 0, .int .i64 0, .slice none 0 0, .int .u64 0]) (size := 4) (bytes := 48) Try.underlying39 (by kernel_rfl) rfl rfl rfl hr749 rfl hk736 rfl (all_cons rfl (all_cons rfl (all_cons (row_one hr757) (all_cons rfl all_nil)))) (by first | omega | (simp only [List.length_nil, List.length_append, List.length_cons, List.length_take, List.length_drop]; omega)) (by first | omega | (simp only [List.length_nil, List.length_append, List.length_cons, List.length_take, List.length_drop]; omega)) (by omega)) ?_ ?_; clear h750
         ·
          rintro v753 w752 ⟨hr754, hwt756, hg755⟩
          have hr754' : w752.ownsRow 0 47 4 v753 ((L.take ((i).toNat) ++ [(EntT.mk c r u622 l ts)]).length) ((L.take ((i).toNat) ++ [(EntT.mk c r u622 l ts)]).flatMap entE) := row_push (y := (EntT.mk c r u622 l ts)) hr754 rfl rfl; clear hr754
          have hz758 := hg755.size
          have hB759 := fbU_row hB746 (show InS (S) w0.heap.size (subV u 0 ((i).toNat) 4) from fun qi hqi => hO.su qi ((cut_block hr748 ((i).toNat)) ▸ hqi)) hg755
          have hk760 := hk747.kept hg755 ((fun eq => ha14 ((cut_block hr748 ((i).toNat)) ▸ eq)))
          exact ⟨hB759, hk760⟩
         rintro v753 w752 a751 ⟨hr754, hwt756, hg755⟩ h751
         have hr754' : w752.ownsRow 0 47 4 v753 ((L.take ((i).toNat) ++ [(EntT.mk c r u622 l ts)]).length) ((L.take ((i).toNat) ++ [(EntT.mk c r u622 l ts)]).flatMap entE) := row_push (y := (EntT.mk c r u622 l ts)) hr754 rfl rfl; clear hr754
         have hz758 := hg755.size
         have hB759 := fbU_row hB746 (show InS (S) w0.heap.size (subV u 0 ((i).toNat) 4) from fun qi hqi => hO.su qi ((cut_block hr748 ((i).toNat)) ▸ hqi)) hg755
         have hk760 := hk747.kept hg755 ((fun eq => ha14 ((cut_block hr748 ((i).toNat)) ▸ eq)))
         refine dk0 11 (v := pt b 0) h751 rfl rfl ⟨hB759, hk760⟩ fun a761 h761 => ?_; clear h751
         refine dk0 12 (v := pt b 1) h761 rfl rfl ⟨hB759, hk760⟩ fun a762 h762 => ?_; clear h761
         have hk768 := hk505.below hb624
         have hk769 := hk768.kept hg735 (by simp)
         have hk770 := hk769.kept hg755 (own_neT hr749 hk769 (by decide))
         refine d1D 13 h762 rfl rfl (op_store1 rfl rfl rfl (row_one hr754') Try.sizeOf39 hk770 rfl) ?_ ?_; clear h762
         ·
          rintro _ w764 ⟨hk765, hz766, hg767⟩
          have hk765' : Blk w764 b 67 #[.bool true, v753, .map (some M)] := hk765; clear hk765
          have hz771 := hg767.size
          have hB772 := fbU_at hB759 hg767 (fun hlt => by rcases hO.sb with hq | hq; exact hq; omega)
          have hk773 := hk760.kept hg767 (by simp; omega)
          exact ⟨hB772, hk773⟩
         rintro _ w764 a763 ⟨hk765, hz766, hg767⟩ h763
         have hk765' : Blk w764 b 67 #[.bool true, v753, .map (some M)] := hk765; clear hk765
         have hz771 := hg767.size
         refine dr_done (by kernel_rfl) ?_
         refine co_then ?_
         refine dr_gen (fun x => But (S) w0 x ∧ Blk x N9 47 #[.int .i64 c, .int .i64 r, v, .int .u64 ts] ∧ Blk x b 67 #[.bool true, v753, .map (some M)]) (by kernel_rfl) (fun w772 hg773 => ?_) (fun w772 hg773 => ?_)
         ·
          have hz774 := hg773.size
          have hB775 := fbU_at hB759 hg767 (fun hlt => by rcases hO.sb with hq | hq; exact hq; omega)
          have hB776 := fbU_new hB775 hg773
          have hk777 := hk760.kept hg767 (by simp; omega)
          have hk778 := hk777.kept hg773 (by simp)
          have hk779 := hk765'.kept hg773 (by simp)
          exact ⟨hB776, hk778, hk779⟩
         have hz780 := hg773.size
         have hB781 := fbU_at hB759 hg767 (fun hlt => by rcases hO.sb with hq | hq; exact hq; omega)
         have hB782 := fbU_new hB781 hg773
         have hk783 := hk760.kept hg767 (by simp; omega)
         have hk784 := hk783.kept hg773 (by simp)
         have hk785 := hk765'.kept hg773 (by simp)
         refine dk0 0 (v := pt b 0) h763 rfl rfl ⟨hB782, hk784, hk785⟩ fun a786 h786 => ?_; clear h763
         refine dk0 1 (v := pt b 0) h786 rfl rfl ⟨hB782, hk784, hk785⟩ fun a787 h787 => ?_; clear h786
         refine dk0 2 (v := pt b 2) h787 rfl rfl ⟨hB782, hk784, hk785⟩ fun a788 h788 => ?_; clear h787
         refine dk 3 (v := .map (some M)) h788 rfl rfl ⟨hB782, hk784, hk785⟩ (fun x hx => (rn_load1 rfl rfl Try.isAgg65 (hx.2.2.cell rfl))) fun a789 h789 => ?_; clear h788
         refine dk 4 (v := .agg #[.int .i64 c, .int .i64 r, v, .int .u64 ts]) h789 rfl rfl ⟨hB782, hk784, hk785⟩ (fun x hx => (rn_loadN rfl rfl Try.underlying47 rfl (by kernel_rfl) hx.2.1.all)) fun a790 h790 => ?_; clear h789
         refine dk0 6 (v := .int .i64 i) h790 rfl rfl ⟨hB782, hk784, hk785⟩ fun a791 h791 => ?_; clear h790
         refine dk0 7 (v := .agg #[.int .i64 i]) h791 rfl rfl ⟨hB782, hk784, hk785⟩ fun a792 h792 => ?_; clear h791
         refine d1 5 h792 rfl rfl (op_call (args := #[.agg #[.int .i64 c, .int .i64 r, v, .int .u64 ts]]) (R := fun res xw => res = .agg #[.int .i64 c, .int .i64 r] ∧ Below w772.heap.size w772 xw) rfl rfl rfl (by kernel_rfl) (by kernel_rfl) (Try.call87 _ _) (lname_any c r v ts w772 ) (by rintro e x ⟨rfl, hb795⟩; exact ⟨_, rfl, ⟨rfl, hb795⟩⟩)) ?_ ?_; clear h792
         ·
          rintro _ w794 ⟨rfl, hb795⟩
          have hz796 := hb795.size
          have hB797 := fbU_call hB782 hb795
          have hk798 := hk784.below hb795
          have hk799 := hk785.below hb795
          exact ⟨hB797, hk798, hk799⟩
         rintro _ w794 a793 ⟨rfl, hb795⟩ h793
         have hz796 := hb795.size
         have hB797 := fbU_call hB782 hb795
         have hk798 := hk784.below hb795
         have hk799 := hk785.below hb795
         have hM805 := hf37.kept hg49 (by simp)
         have hM806 := hM805.kept (below_grown hb624) (by simp)
         have hM807 := hM806.kept hg735 (by simp)
         have hM808 := hM807.kept hg755 (hM807.row hr749)
         have hM809 := hM808.kept hg767 (by simp; omega)
         have hM810 := hM809.kept hg773 (by simp)
         have hM811 := hM810.kept (below_grown hb795) (by simp)
         refine d1D 8 h793 rfl rfl (op_updateO (a := (c, r)) (v := i) nm_kl rfl rfl rfl rfl Try.underlying65 hM811) ?_ ?_; clear h793
         ·
          rintro _ w801 ⟨hm802, hz803, hg804⟩
          have hz812 := hg804.size
          have hl813 := hm802.lt
          have hB814 := fbU_at hB797 hg804 (fun hlt => by rcases hO.sM with hq | hq; exact hq; omega)
          have hk815 := hk798.kept hg804 (by simp; omega)
          have hk816 := hk799.kept hg804 (by simp; omega)
          exact ⟨hB814, hk815, hk816⟩
         rintro _ w801 a800 ⟨hm802, hz803, hg804⟩ h800
         have hz812 := hg804.size
         have hl813 := hm802.lt
         refine dr_done (by kernel_rfl) ?_
         refine co_ret0n h800 rfl ?_
         have hr814 := row_kept_row hr757 hr749 hg755 (by decide)
         have hr815 := row_kept_at hr814 hg767 (own_neT hr814 hk770 (by decide))
         have hr816 := row_kept_new hr815 hg773
         have hr817 := row_kept_new hr816 (below_grown hb795)
         have hr818 := row_kept_at hr817 hg804 (hM811.row hr817)
         have hE819 := hf36.new hg49
         have hE820 := hE819.new (below_grown hb624)
         have hE821 := hE820.new hg735
         have hE822 := hE821.row hr749 (by decide) hg755
         have hE823 := hE822.blk hk770 (by decide) hg767
         have hE824 := hE823.new hg773
         have hE825 := hE824.new (below_grown hb795)
         have hE826 := hE825.map hM811 hg804
         have hr827 := row_kept_at hr754' hg767 (own_neT hr754' hk770 (by decide))
         have hr828 := row_kept_new hr827 hg773
         have hr829 := row_kept_new hr828 (below_grown hb795)
         have hr830 := row_kept_at hr829 hg804 (hM811.row hr829)
         have hk831 := hk799.kept hg804 (by simp; omega)
         have hB832 := fbU_at hB797 hg804 (fun hlt => by rcases hO.sM with hq | hq; exact hq; omega)
         have hEK : EntK S w0.heap.size w801 (EntT.mk c r u622 l ts) := ⟨row_lows hr818 (Nat.zero_le _), InS.low hr818 (by omega), hlen, hen.1, hts.1, hts.2, hen.2.1, hen.2.2⟩
         have hEs := (EntsK.take hE826 i.toNat).snoc hEK
         have hlt : (L.take i.toNat).length = i.toNat := by rw [List.length_take]; omega
         have hdl : (L.drop i.toNat).length = L.length - i.toNat := List.length_drop
         have hfs := findN_snoc (A := L.take i.toNat) (e := (EntT.mk c r u622 l ts)) hfn
         exact ⟨v753, u622, rfl, ⟨hk831, ⟨_, hm802.eq ((by rw [delN_end hO.uq (by omega), hfs, hlt, Int.toNat_of_nonneg (by omega)]; rfl)) (Nat.le_refl _)⟩, (row_eq hr830 (by first | rfl | simp)), hEs, hO.sb, hO.sM, ((show InS (S) w0.heap.size (subV u 0 ((i).toNat) 4) from fun qi hqi => hO.su qi ((cut_block hr748 ((i).toNat)) ▸ hqi)).went hwt756 (by omega)), ((hO.uq.take _).snoc hfn), (by rw [List.length_append, hlt]; simp; omega)⟩, trivial, hB832⟩
     ·
      refine dr_op (i := 8) h504 rfl rfl rfl rfl (op_call (args := #[.agg #[.int .i64 c, .int .i64 r, v, .int .u64 ts]]) (R := fun res xw => ∃ u : Value, res = .agg #[.int .i64 c, .int .i64 r, u, .int .u64 ts] ∧ xw.ownsRow w48.heap.size 127 3 u l.length (l.flatMap opE) ∧ Below w48.heap.size w48 xw) rfl rfl rfl (by kernel_rfl) (by kernel_rfl) (Try.call81 _ _) (freshEntry_any c r v l ts w48 (sl_butN hs hB54 hvS) (by first | omega | (simp; done) | (simp; omega))) (by rintro e x ⟨u, rfl, hq836, hb837⟩; exact ⟨_, rfl, ⟨u, rfl, hq836, hb837⟩⟩)) ?_ ?_; clear h504
      ·
       rintro _ w834 ⟨u835, rfl, hq836, hb837⟩
       have hz838 := hb837.size
       have hl839 := sl_len (row_sl hq836 opE_len)
       have hB840 := fbU_call hB54 hb837
       have hk841 := hk55.below hb837
       exact ⟨hB840, hk841⟩
      rintro _ w834 a833 ⟨u835, rfl, hq836, hb837⟩ h833
      have hz838 := hb837.size
      have hl839 := sl_len (row_sl hq836 opE_len)
      have hB840 := fbU_call hB54 hb837
      have hk841 := hk55.below hb837
      refine dr_many [4, 9] (by kernel_rfl) (by simp) ⟨?_, ?_, trivial⟩
      ·
       have hk842 := hk39.kept hg49 (by simp)
       have hk843 := hk842.below hb837
       refine dr_opVal (i := 4) (v := u) h833 rfl rfl rfl rfl (by kernel_rfl) rfl (rn_load1 rfl rfl Try.isAgg39 (hk843.cell rfl)) ⟨hB840, hk841⟩ (fun a844 h844 => ?_); clear h833
       refine dr_many [6, 9] (by kernel_rfl) (by simp) ⟨?_, ?_, trivial⟩
       ·
        have hr845 := row_kept_new hf35 hg49
        have hr846 := row_kept_new hr845 (below_grown hb837)
        have hr847 := row_cut hr846 entE_len ((i).toNat) (by omega) (.inr trivial)
        refine dr_opVal (i := 6) (v := subV u 0 ((i).toNat) 4) h844 rfl rfl rfl rfl (by kernel_rfl) rfl (rn_sliceTo rfl rfl rfl Try.underlying39 Try.sizeOf47 (row_sl hr846 entE_len) (by omega) (by omega)) ⟨hB840, hk841⟩ (fun a848 h848 => ?_); clear h844
        refine d1 9 h848 rfl rfl (op_new (v := fun N => .slice (some ⟨N, 0, none⟩) 1 1) (T := 47) (cs := #[.int .i64 c, .int .i64 r, u835, .int .u64 ts]) (by kernel_rfl) (by kernel_rfl) (by kernel_rfl)) ?_ ?_; clear h848
        ·
         rintro _ w850 ⟨N851, rfl, hN854, hz855, hk853, hg852⟩
         have ha856 := row_fresh hr846 hN854
         have hu857 := row_under hr846 hN854
         have ha858 := row_fresh hq836 hN854
         have hu859 := row_under hq836 hN854
         have ha860 := row_fresh hr847 hN854
         have hu861 := row_under hr847 hN854
         have hz862 := hg852.size
         have hB863 := fbU_new hB840 hg852
         have hk864 := hk841.kept hg852 (by simp)
         exact ⟨hB863, hk864⟩
        rintro _ w850 a849 ⟨N851, rfl, hN854, hz855, hk853, hg852⟩ h849
        have ha856 := row_fresh hr846 hN854
        have hu857 := row_under hr846 hN854
        have ha858 := row_fresh hq836 hN854
        have hu859 := row_under hq836 hN854
        have ha860 := row_fresh hr847 hN854
        have hu861 := row_under hr847 hN854
        have hz862 := hg852.size
        try dsimp only at h849
        have hB863 := fbU_new hB840 hg852
        have hk864 := hk841.kept hg852 (by simp)
        have hr871 := row_kept_new hr847 hg852
        have hr872 := row_kept_new hq836 hg852
        refine d1 10 h849 rfl rfl (op_appendF rfl 0 47 (z := .agg #[.int .i64 0, .int .i64 0, .slice none 0 0, .int .u64 0]) (size := 4) (bytes := 48) Try.underlying39 (by kernel_rfl) rfl rfl rfl hr871 rfl hk853 rfl (all_cons rfl (all_cons rfl (all_cons (row_one hr872) (all_cons rfl all_nil)))) (by first | omega | (simp only [List.length_nil, List.length_append, List.length_cons, List.length_take, List.length_drop]; omega)) (by first | omega | (simp only [List.length_nil, List.length_append, List.length_cons, List.length_take, List.length_drop]; omega)) (by omega)) ?_ ?_; clear h849
        ·
         rintro v867 w866 ⟨hr868, hwt870, hg869⟩
         have hr868' : w866.ownsRow 0 47 4 v867 ((L.take ((i).toNat) ++ [(EntT.mk c r u835 l ts)]).length) ((L.take ((i).toNat) ++ [(EntT.mk c r u835 l ts)]).flatMap entE) := row_push (y := (EntT.mk c r u835 l ts)) hr868 rfl rfl; clear hr868
         have hz873 := hg869.size
         have hB874 := fbU_row hB863 (show InS (S) w0.heap.size (subV u 0 ((i).toNat) 4) from fun qi hqi => hO.su qi ((cut_block hr846 ((i).toNat)) ▸ hqi)) hg869
         have hk875 := hk864.kept hg869 ((fun eq => ha14 ((cut_block hr846 ((i).toNat)) ▸ eq)))
         exact ⟨hB874, hk875⟩
        rintro v867 w866 a865 ⟨hr868, hwt870, hg869⟩ h865
        have hr868' : w866.ownsRow 0 47 4 v867 ((L.take ((i).toNat) ++ [(EntT.mk c r u835 l ts)]).length) ((L.take ((i).toNat) ++ [(EntT.mk c r u835 l ts)]).flatMap entE) := row_push (y := (EntT.mk c r u835 l ts)) hr868 rfl rfl; clear hr868
        have hz873 := hg869.size
        have hB874 := fbU_row hB863 (show InS (S) w0.heap.size (subV u 0 ((i).toNat) 4) from fun qi hqi => hO.su qi ((cut_block hr846 ((i).toNat)) ▸ hqi)) hg869
        have hk875 := hk864.kept hg869 ((fun eq => ha14 ((cut_block hr846 ((i).toNat)) ▸ eq)))
        refine dk0 11 (v := pt b 0) h865 rfl rfl ⟨hB874, hk875⟩ fun a876 h876 => ?_; clear h865
        refine dk0 12 (v := pt b 1) h876 rfl rfl ⟨hB874, hk875⟩ fun a877 h877 => ?_; clear h876
        have hk883 := hk843.kept hg852 (by simp)
        have hk884 := hk883.kept hg869 (own_neT hr871 hk883 (by decide))
        refine d1D 13 h877 rfl rfl (op_store1 rfl rfl rfl (row_one hr868') Try.sizeOf39 hk884 rfl) ?_ ?_; clear h877
        ·
         rintro _ w879 ⟨hk880, hz881, hg882⟩
         have hk880' : Blk w879 b 67 #[.bool true, v867, .map (some M)] := hk880; clear hk880
         have hz885 := hg882.size
         have hB886 := fbU_at hB874 hg882 (fun hlt => by rcases hO.sb with hq | hq; exact hq; omega)
         have hk887 := hk875.kept hg882 (by simp; omega)
         exact ⟨hB886, hk887⟩
        rintro _ w879 a878 ⟨hk880, hz881, hg882⟩ h878
        have hk880' : Blk w879 b 67 #[.bool true, v867, .map (some M)] := hk880; clear hk880
        have hz885 := hg882.size
        refine dr_done (by kernel_rfl) ?_
        refine co_then ?_
        refine dr_gen (fun x => But (S) w0 x ∧ Blk x N9 47 #[.int .i64 c, .int .i64 r, v, .int .u64 ts] ∧ Blk x b 67 #[.bool true, v867, .map (some M)]) (by kernel_rfl) (fun w886 hg887 => ?_) (fun w886 hg887 => ?_)
        ·
         have hz888 := hg887.size
         have hB889 := fbU_at hB874 hg882 (fun hlt => by rcases hO.sb with hq | hq; exact hq; omega)
         have hB890 := fbU_new hB889 hg887
         have hk891 := hk875.kept hg882 (by simp; omega)
         have hk892 := hk891.kept hg887 (by simp)
         have hk893 := hk880'.kept hg887 (by simp)
         exact ⟨hB890, hk892, hk893⟩
        have hz894 := hg887.size
        have hB895 := fbU_at hB874 hg882 (fun hlt => by rcases hO.sb with hq | hq; exact hq; omega)
        have hB896 := fbU_new hB895 hg887
        have hk897 := hk875.kept hg882 (by simp; omega)
        have hk898 := hk897.kept hg887 (by simp)
        have hk899 := hk880'.kept hg887 (by simp)
        refine dk0 0 (v := pt b 0) h878 rfl rfl ⟨hB896, hk898, hk899⟩ fun a900 h900 => ?_; clear h878
        refine dk0 1 (v := pt b 0) h900 rfl rfl ⟨hB896, hk898, hk899⟩ fun a901 h901 => ?_; clear h900
        refine dk0 2 (v := pt b 2) h901 rfl rfl ⟨hB896, hk898, hk899⟩ fun a902 h902 => ?_; clear h901
        refine dk 3 (v := .map (some M)) h902 rfl rfl ⟨hB896, hk898, hk899⟩ (fun x hx => (rn_load1 rfl rfl Try.isAgg65 (hx.2.2.cell rfl))) fun a903 h903 => ?_; clear h902
        refine dk 4 (v := .agg #[.int .i64 c, .int .i64 r, v, .int .u64 ts]) h903 rfl rfl ⟨hB896, hk898, hk899⟩ (fun x hx => (rn_loadN rfl rfl Try.underlying47 rfl (by kernel_rfl) hx.2.1.all)) fun a904 h904 => ?_; clear h903
        refine dk0 6 (v := .int .i64 i) h904 rfl rfl ⟨hB896, hk898, hk899⟩ fun a905 h905 => ?_; clear h904
        refine dk0 7 (v := .agg #[.int .i64 i]) h905 rfl rfl ⟨hB896, hk898, hk899⟩ fun a906 h906 => ?_; clear h905
        refine d1 5 h906 rfl rfl (op_call (args := #[.agg #[.int .i64 c, .int .i64 r, v, .int .u64 ts]]) (R := fun res xw => res = .agg #[.int .i64 c, .int .i64 r] ∧ Below w886.heap.size w886 xw) rfl rfl rfl (by kernel_rfl) (by kernel_rfl) (Try.call87 _ _) (lname_any c r v ts w886 ) (by rintro e x ⟨rfl, hb909⟩; exact ⟨_, rfl, ⟨rfl, hb909⟩⟩)) ?_ ?_; clear h906
        ·
         rintro _ w908 ⟨rfl, hb909⟩
         have hz910 := hb909.size
         have hB911 := fbU_call hB896 hb909
         have hk912 := hk898.below hb909
         have hk913 := hk899.below hb909
         exact ⟨hB911, hk912, hk913⟩
        rintro _ w908 a907 ⟨rfl, hb909⟩ h907
        have hz910 := hb909.size
        have hB911 := fbU_call hB896 hb909
        have hk912 := hk898.below hb909
        have hk913 := hk899.below hb909
        have hM919 := hf37.kept hg49 (by simp)
        have hM920 := hM919.kept (below_grown hb837) (by simp)
        have hM921 := hM920.kept hg852 (by simp)
        have hM922 := hM921.kept hg869 (hM921.row hr871)
        have hM923 := hM922.kept hg882 (by simp; omega)
        have hM924 := hM923.kept hg887 (by simp)
        have hM925 := hM924.kept (below_grown hb909) (by simp)
        refine d1D 8 h907 rfl rfl (op_updateO (a := (c, r)) (v := i) nm_kl rfl rfl rfl rfl Try.underlying65 hM925) ?_ ?_; clear h907
        ·
         rintro _ w915 ⟨hm916, hz917, hg918⟩
         have hz926 := hg918.size
         have hl927 := hm916.lt
         have hB928 := fbU_at hB911 hg918 (fun hlt => by rcases hO.sM with hq | hq; exact hq; omega)
         have hk929 := hk912.kept hg918 (by simp; omega)
         have hk930 := hk913.kept hg918 (by simp; omega)
         exact ⟨hB928, hk929, hk930⟩
        rintro _ w915 a914 ⟨hm916, hz917, hg918⟩ h914
        have hz926 := hg918.size
        have hl927 := hm916.lt
        refine dr_done (by kernel_rfl) ?_
        refine co_ret0n h914 rfl ?_
        have hr928 := row_kept_row hr872 hr871 hg869 (by decide)
        have hr929 := row_kept_at hr928 hg882 (own_neT hr928 hk884 (by decide))
        have hr930 := row_kept_new hr929 hg887
        have hr931 := row_kept_new hr930 (below_grown hb909)
        have hr932 := row_kept_at hr931 hg918 (hM925.row hr931)
        have hE933 := hf36.new hg49
        have hE934 := hE933.new (below_grown hb837)
        have hE935 := hE934.new hg852
        have hE936 := hE935.row hr871 (by decide) hg869
        have hE937 := hE936.blk hk884 (by decide) hg882
        have hE938 := hE937.new hg887
        have hE939 := hE938.new (below_grown hb909)
        have hE940 := hE939.map hM925 hg918
        have hr941 := row_kept_at hr868' hg882 (own_neT hr868' hk884 (by decide))
        have hr942 := row_kept_new hr941 hg887
        have hr943 := row_kept_new hr942 (below_grown hb909)
        have hr944 := row_kept_at hr943 hg918 (hM925.row hr943)
        have hk945 := hk913.kept hg918 (by simp; omega)
        have hB946 := fbU_at hB911 hg918 (fun hlt => by rcases hO.sM with hq | hq; exact hq; omega)
        have hEK : EntK S w0.heap.size w915 (EntT.mk c r u835 l ts) := ⟨row_lows hr932 (Nat.zero_le _), InS.low hr932 (by omega), hlen, hen.1, hts.1, hts.2, hen.2.1, hen.2.2⟩
        have hEs := (EntsK.take hE940 i.toNat).snoc hEK
        have hlt : (L.take i.toNat).length = i.toNat := by rw [List.length_take]; omega
        have hdl : (L.drop i.toNat).length = L.length - i.toNat := List.length_drop
        have hfs := findN_snoc (A := L.take i.toNat) (e := (EntT.mk c r u835 l ts)) hfn
        exact ⟨v867, u835, rfl, ⟨hk945, ⟨_, hm916.eq ((by rw [delN_end hO.uq (by omega), hfs, hlt, Int.toNat_of_nonneg (by omega)]; rfl)) (Nat.le_refl _)⟩, (row_eq hr944 (by first | rfl | simp)), hEs, hO.sb, hO.sM, ((show InS (S) w0.heap.size (subV u 0 ((i).toNat) 4) from fun qi hqi => hO.su qi ((cut_block hr846 ((i).toNat)) ▸ hqi)).went hwt870 (by omega)), ((hO.uq.take _).snoc hfn), (by rw [List.length_append, hlt]; simp; omega)⟩, trivial, hB946⟩
       ·
        refine dr_op (i := 9) h844 rfl rfl rfl rfl (op_new (v := fun N => .slice (some ⟨N, 0, none⟩) 1 1) (T := 47) (cs := #[.int .i64 c, .int .i64 r, u835, .int .u64 ts]) (by kernel_rfl) (by kernel_rfl) (by kernel_rfl)) ?_ ?_; clear h844
        ·
         rintro _ w948 ⟨N949, rfl, hN952, hz953, hk951, hg950⟩
         have hr955 := row_kept_new hf35 hg49
         have hr956 := row_kept_new hr955 (below_grown hb837)
         have ha954 := row_fresh hr956 hN952
         have hu957 := row_under hr956 hN952
         have ha958 := row_fresh hq836 hN952
         have hu959 := row_under hq836 hN952
         have hz960 := hg950.size
         have hB961 := fbU_new hB840 hg950
         have hk962 := hk841.kept hg950 (by simp)
         exact ⟨hB961, hk962⟩
        rintro _ w948 a947 ⟨N949, rfl, hN952, hz953, hk951, hg950⟩ h947
        have hr955 := row_kept_new hf35 hg49
        have hr956 := row_kept_new hr955 (below_grown hb837)
        have ha954 := row_fresh hr956 hN952
        have hu957 := row_under hr956 hN952
        have ha958 := row_fresh hq836 hN952
        have hu959 := row_under hq836 hN952
        have hz960 := hg950.size
        try dsimp only at h947
        have hB961 := fbU_new hB840 hg950
        have hk962 := hk841.kept hg950 (by simp)
        refine dr_many [6] (by kernel_rfl) (by simp) ⟨?_, trivial⟩
        ·
         have hr963 := row_kept_new hr956 hg950
         have hr964 := row_cut hr963 entE_len ((i).toNat) (by omega) (.inr trivial)
         refine dr_opVal (i := 6) (v := subV u 0 ((i).toNat) 4) h947 rfl rfl rfl rfl (by kernel_rfl) rfl (rn_sliceTo rfl rfl rfl Try.underlying39 Try.sizeOf47 (row_sl hr963 entE_len) (by omega) (by omega)) ⟨hB961, hk962⟩ (fun a965 h965 => ?_); clear h947
         have hr972 := row_kept_new hq836 hg950
         refine d1 10 h965 rfl rfl (op_appendF rfl 0 47 (z := .agg #[.int .i64 0, .int .i64 0, .slice none 0 0, .int .u64 0]) (size := 4) (bytes := 48) Try.underlying39 (by kernel_rfl) rfl rfl rfl hr964 rfl hk951 rfl (all_cons rfl (all_cons rfl (all_cons (row_one hr972) (all_cons rfl all_nil)))) (by first | omega | (simp only [List.length_nil, List.length_append, List.length_cons, List.length_take, List.length_drop]; omega)) (by first | omega | (simp only [List.length_nil, List.length_append, List.length_cons, List.length_take, List.length_drop]; omega)) (by omega)) ?_ ?_; clear h965
         ·
          rintro v968 w967 ⟨hr969, hwt971, hg970⟩
          have hr969' : w967.ownsRow 0 47 4 v968 ((L.take ((i).toNat) ++ [(EntT.mk c r u835 l ts)]).length) ((L.take ((i).toNat) ++ [(EntT.mk c r u835 l ts)]).flatMap entE) := row_push (y := (EntT.mk c r u835 l ts)) hr969 rfl rfl; clear hr969
          have hz973 := hg970.size
          have hB974 := fbU_row hB961 (show InS (S) w0.heap.size (subV u 0 ((i).toNat) 4) from fun qi hqi => hO.su qi ((cut_block hr963 ((i).toNat)) ▸ hqi)) hg970
          have hk975 := hk962.kept hg970 ((fun eq => ha14 ((cut_block hr963 ((i).toNat)) ▸ eq)))
          exact ⟨hB974, hk975⟩
         rintro v968 w967 a966 ⟨hr969, hwt971, hg970⟩ h966
         have hr969' : w967.ownsRow 0 47 4 v968 ((L.take ((i).toNat) ++ [(EntT.mk c r u835 l ts)]).length) ((L.take ((i).toNat) ++ [(EntT.mk c r u835 l ts)]).flatMap entE) := row_push (y := (EntT.mk c r u835 l ts)) hr969 rfl rfl; clear hr969
         have hz973 := hg970.size
         have hB974 := fbU_row hB961 (show InS (S) w0.heap.size (subV u 0 ((i).toNat) 4) from fun qi hqi => hO.su qi ((cut_block hr963 ((i).toNat)) ▸ hqi)) hg970
         have hk975 := hk962.kept hg970 ((fun eq => ha14 ((cut_block hr963 ((i).toNat)) ▸ eq)))
         refine dk0 11 (v := pt b 0) h966 rfl rfl ⟨hB974, hk975⟩ fun a976 h976 => ?_; clear h966
         refine dk0 12 (v := pt b 1) h976 rfl rfl ⟨hB974, hk975⟩ fun a977 h977 => ?_; clear h976
         have hk983 := hk843.kept hg950 (by simp)
         have hk984 := hk983.kept hg970 (own_neT hr964 hk983 (by decide))
         refine d1D 13 h977 rfl rfl (op_store1 rfl rfl rfl (row_one hr969') Try.sizeOf39 hk984 rfl) ?_ ?_; clear h977
         ·
          rintro _ w979 ⟨hk980, hz981, hg982⟩
          have hk980' : Blk w979 b 67 #[.bool true, v968, .map (some M)] := hk980; clear hk980
          have hz985 := hg982.size
          have hB986 := fbU_at hB974 hg982 (fun hlt => by rcases hO.sb with hq | hq; exact hq; omega)
          have hk987 := hk975.kept hg982 (by simp; omega)
          exact ⟨hB986, hk987⟩
         rintro _ w979 a978 ⟨hk980, hz981, hg982⟩ h978
         have hk980' : Blk w979 b 67 #[.bool true, v968, .map (some M)] := hk980; clear hk980
         have hz985 := hg982.size
         refine dr_done (by kernel_rfl) ?_
         refine co_then ?_
         refine dr_gen (fun x => But (S) w0 x ∧ Blk x N9 47 #[.int .i64 c, .int .i64 r, v, .int .u64 ts] ∧ Blk x b 67 #[.bool true, v968, .map (some M)]) (by kernel_rfl) (fun w986 hg987 => ?_) (fun w986 hg987 => ?_)
         ·
          have hz988 := hg987.size
          have hB989 := fbU_at hB974 hg982 (fun hlt => by rcases hO.sb with hq | hq; exact hq; omega)
          have hB990 := fbU_new hB989 hg987
          have hk991 := hk975.kept hg982 (by simp; omega)
          have hk992 := hk991.kept hg987 (by simp)
          have hk993 := hk980'.kept hg987 (by simp)
          exact ⟨hB990, hk992, hk993⟩
         have hz994 := hg987.size
         have hB995 := fbU_at hB974 hg982 (fun hlt => by rcases hO.sb with hq | hq; exact hq; omega)
         have hB996 := fbU_new hB995 hg987
         have hk997 := hk975.kept hg982 (by simp; omega)
         have hk998 := hk997.kept hg987 (by simp)
         have hk999 := hk980'.kept hg987 (by simp)
         refine dk0 0 (v := pt b 0) h978 rfl rfl ⟨hB996, hk998, hk999⟩ fun a1000 h1000 => ?_; clear h978
         refine dk0 1 (v := pt b 0) h1000 rfl rfl ⟨hB996, hk998, hk999⟩ fun a1001 h1001 => ?_; clear h1000
         refine dk0 2 (v := pt b 2) h1001 rfl rfl ⟨hB996, hk998, hk999⟩ fun a1002 h1002 => ?_; clear h1001
         refine dk 3 (v := .map (some M)) h1002 rfl rfl ⟨hB996, hk998, hk999⟩ (fun x hx => (rn_load1 rfl rfl Try.isAgg65 (hx.2.2.cell rfl))) fun a1003 h1003 => ?_; clear h1002
         refine dk 4 (v := .agg #[.int .i64 c, .int .i64 r, v, .int .u64 ts]) h1003 rfl rfl ⟨hB996, hk998, hk999⟩ (fun x hx => (rn_loadN rfl rfl Try.underlying47 rfl (by kernel_rfl) hx.2.1.all)) fun a1004 h1004 => ?_; clear h1003
         refine dk0 6 (v := .int .i64 i) h1004 rfl rfl ⟨hB996, hk998, hk999⟩ fun a1005 h1005 => ?_; clear h1004
         refine dk0 7 (v := .agg #[.int .i64 i]) h1005 rfl rfl ⟨hB996, hk998, hk999⟩ fun a1006 h1006 => ?_; clear h1005
         refine d1 5 h1006 rfl rfl (op_call (args := #[.agg #[.int .i64 c, .int .i64 r, v, .int .u64 ts]]) (R := fun res xw => res = .agg #[.int .i64 c, .int .i64 r] ∧ Below w986.heap.size w986 xw) rfl rfl rfl (by kernel_rfl) (by kernel_rfl) (Try.call87 _ _) (lname_any c r v ts w986 ) (by rintro e x ⟨rfl, hb1009⟩; exact ⟨_, rfl, ⟨rfl, hb1009⟩⟩)) ?_ ?_; clear h1006
         ·
          rintro _ w1008 ⟨rfl, hb1009⟩
          have hz1010 := hb1009.size
          have hB1011 := fbU_call hB996 hb1009
          have hk1012 := hk998.below hb1009
          have hk1013 := hk999.below hb1009
          exact ⟨hB1011, hk1012, hk1013⟩
         rintro _ w1008 a1007 ⟨rfl, hb1009⟩ h1007
         have hz1010 := hb1009.size
         have hB1011 := fbU_call hB996 hb1009
         have hk1012 := hk998.below hb1009
         have hk1013 := hk999.below hb1009
         have hM1019 := hf37.kept hg49 (by simp)
         have hM1020 := hM1019.kept (below_grown hb837) (by simp)
         have hM1021 := hM1020.kept hg950 (by simp)
         have hM1022 := hM1021.kept hg970 (hM1021.row hr964)
         have hM1023 := hM1022.kept hg982 (by simp; omega)
         have hM1024 := hM1023.kept hg987 (by simp)
         have hM1025 := hM1024.kept (below_grown hb1009) (by simp)
         refine d1D 8 h1007 rfl rfl (op_updateO (a := (c, r)) (v := i) nm_kl rfl rfl rfl rfl Try.underlying65 hM1025) ?_ ?_; clear h1007
         ·
          rintro _ w1015 ⟨hm1016, hz1017, hg1018⟩
          have hz1026 := hg1018.size
          have hl1027 := hm1016.lt
          have hB1028 := fbU_at hB1011 hg1018 (fun hlt => by rcases hO.sM with hq | hq; exact hq; omega)
          have hk1029 := hk1012.kept hg1018 (by simp; omega)
          have hk1030 := hk1013.kept hg1018 (by simp; omega)
          exact ⟨hB1028, hk1029, hk1030⟩
         rintro _ w1015 a1014 ⟨hm1016, hz1017, hg1018⟩ h1014
         have hz1026 := hg1018.size
         have hl1027 := hm1016.lt
         refine dr_done (by kernel_rfl) ?_
         refine co_ret0n h1014 rfl ?_
         have hr1028 := row_kept_row hr972 hr964 hg970 (by decide)
         have hr1029 := row_kept_at hr1028 hg982 (own_neT hr1028 hk984 (by decide))
         have hr1030 := row_kept_new hr1029 hg987
         have hr1031 := row_kept_new hr1030 (below_grown hb1009)
         have hr1032 := row_kept_at hr1031 hg1018 (hM1025.row hr1031)
         have hE1033 := hf36.new hg49
         have hE1034 := hE1033.new (below_grown hb837)
         have hE1035 := hE1034.new hg950
         have hE1036 := hE1035.row hr964 (by decide) hg970
         have hE1037 := hE1036.blk hk984 (by decide) hg982
         have hE1038 := hE1037.new hg987
         have hE1039 := hE1038.new (below_grown hb1009)
         have hE1040 := hE1039.map hM1025 hg1018
         have hr1041 := row_kept_at hr969' hg982 (own_neT hr969' hk984 (by decide))
         have hr1042 := row_kept_new hr1041 hg987
         have hr1043 := row_kept_new hr1042 (below_grown hb1009)
         have hr1044 := row_kept_at hr1043 hg1018 (hM1025.row hr1043)
         have hk1045 := hk1013.kept hg1018 (by simp; omega)
         have hB1046 := fbU_at hB1011 hg1018 (fun hlt => by rcases hO.sM with hq | hq; exact hq; omega)
         have hEK : EntK S w0.heap.size w1015 (EntT.mk c r u835 l ts) := ⟨row_lows hr1032 (Nat.zero_le _), InS.low hr1032 (by omega), hlen, hen.1, hts.1, hts.2, hen.2.1, hen.2.2⟩
         have hEs := (EntsK.take hE1040 i.toNat).snoc hEK
         have hlt : (L.take i.toNat).length = i.toNat := by rw [List.length_take]; omega
         have hdl : (L.drop i.toNat).length = L.length - i.toNat := List.length_drop
         have hfs := findN_snoc (A := L.take i.toNat) (e := (EntT.mk c r u835 l ts)) hfn
         exact ⟨v968, u835, rfl, ⟨hk1045, ⟨_, hm1016.eq ((by rw [delN_end hO.uq (by omega), hfs, hlt, Int.toNat_of_nonneg (by omega)]; rfl)) (Nat.le_refl _)⟩, (row_eq hr1044 (by first | rfl | simp)), hEs, hO.sb, hO.sM, ((show InS (S) w0.heap.size (subV u 0 ((i).toNat) 4) from fun qi hqi => hO.su qi ((cut_block hr963 ((i).toNat)) ▸ hqi)).went hwt971 (by omega)), ((hO.uq.take _).snoc hfn), (by rw [List.length_append, hlt]; simp; omega)⟩, trivial, hB1046⟩
      ·
       refine dr_op (i := 9) h833 rfl rfl rfl rfl (op_new (v := fun N => .slice (some ⟨N, 0, none⟩) 1 1) (T := 47) (cs := #[.int .i64 c, .int .i64 r, u835, .int .u64 ts]) (by kernel_rfl) (by kernel_rfl) (by kernel_rfl)) ?_ ?_; clear h833
       ·
        rintro _ w1048 ⟨N1049, rfl, hN1052, hz1053, hk1051, hg1050⟩
        have hr1055 := row_kept_new hf35 hg49
        have hr1056 := row_kept_new hr1055 (below_grown hb837)
        have ha1054 := row_fresh hr1056 hN1052
        have hu1057 := row_under hr1056 hN1052
        have ha1058 := row_fresh hq836 hN1052
        have hu1059 := row_under hq836 hN1052
        have hz1060 := hg1050.size
        have hB1061 := fbU_new hB840 hg1050
        have hk1062 := hk841.kept hg1050 (by simp)
        exact ⟨hB1061, hk1062⟩
       rintro _ w1048 a1047 ⟨N1049, rfl, hN1052, hz1053, hk1051, hg1050⟩ h1047
       have hr1055 := row_kept_new hf35 hg49
       have hr1056 := row_kept_new hr1055 (below_grown hb837)
       have ha1054 := row_fresh hr1056 hN1052
       have hu1057 := row_under hr1056 hN1052
       have ha1058 := row_fresh hq836 hN1052
       have hu1059 := row_under hq836 hN1052
       have hz1060 := hg1050.size
       try dsimp only at h1047
       have hB1061 := fbU_new hB840 hg1050
       have hk1062 := hk841.kept hg1050 (by simp)
       refine dr_many [4] (by kernel_rfl) (by simp) ⟨?_, trivial⟩
       ·
        have hk1063 := hk39.kept hg49 (by simp)
        have hk1064 := hk1063.below hb837
        have hk1065 := hk1064.kept hg1050 (by simp)
        refine dr_opVal (i := 4) (v := u) h1047 rfl rfl rfl rfl (by kernel_rfl) rfl (rn_load1 rfl rfl Try.isAgg39 (hk1065.cell rfl)) ⟨hB1061, hk1062⟩ (fun a1066 h1066 => ?_); clear h1047
        refine dr_many [6] (by kernel_rfl) (by simp) ⟨?_, trivial⟩
        ·
         have hr1067 := row_kept_new hr1056 hg1050
         have hr1068 := row_cut hr1067 entE_len ((i).toNat) (by omega) (.inr trivial)
         refine dr_opVal (i := 6) (v := subV u 0 ((i).toNat) 4) h1066 rfl rfl rfl rfl (by kernel_rfl) rfl (rn_sliceTo rfl rfl rfl Try.underlying39 Try.sizeOf47 (row_sl hr1067 entE_len) (by omega) (by omega)) ⟨hB1061, hk1062⟩ (fun a1069 h1069 => ?_); clear h1066
         have hr1076 := row_kept_new hq836 hg1050
         refine d1 10 h1069 rfl rfl (op_appendF rfl 0 47 (z := .agg #[.int .i64 0, .int .i64 0, .slice none 0 0, .int .u64 0]) (size := 4) (bytes := 48) Try.underlying39 (by kernel_rfl) rfl rfl rfl hr1068 rfl hk1051 rfl (all_cons rfl (all_cons rfl (all_cons (row_one hr1076) (all_cons rfl all_nil)))) (by first | omega | (simp only [List.length_nil, List.length_append, List.length_cons, List.length_take, List.length_drop]; omega)) (by first | omega | (simp only [List.length_nil, List.length_append, List.length_cons, List.length_take, List.length_drop]; omega)) (by omega)) ?_ ?_; clear h1069
         ·
          rintro v1072 w1071 ⟨hr1073, hwt1075, hg1074⟩
          have hr1073' : w1071.ownsRow 0 47 4 v1072 ((L.take ((i).toNat) ++ [(EntT.mk c r u835 l ts)]).length) ((L.take ((i).toNat) ++ [(EntT.mk c r u835 l ts)]).flatMap entE) := row_push (y := (EntT.mk c r u835 l ts)) hr1073 rfl rfl; clear hr1073
          have hz1077 := hg1074.size
          have hB1078 := fbU_row hB1061 (show InS (S) w0.heap.size (subV u 0 ((i).toNat) 4) from fun qi hqi => hO.su qi ((cut_block hr1067 ((i).toNat)) ▸ hqi)) hg1074
          have hk1079 := hk1062.kept hg1074 ((fun eq => ha14 ((cut_block hr1067 ((i).toNat)) ▸ eq)))
          exact ⟨hB1078, hk1079⟩
         rintro v1072 w1071 a1070 ⟨hr1073, hwt1075, hg1074⟩ h1070
         have hr1073' : w1071.ownsRow 0 47 4 v1072 ((L.take ((i).toNat) ++ [(EntT.mk c r u835 l ts)]).length) ((L.take ((i).toNat) ++ [(EntT.mk c r u835 l ts)]).flatMap entE) := row_push (y := (EntT.mk c r u835 l ts)) hr1073 rfl rfl; clear hr1073
         have hz1077 := hg1074.size
         have hB1078 := fbU_row hB1061 (show InS (S) w0.heap.size (subV u 0 ((i).toNat) 4) from fun qi hqi => hO.su qi ((cut_block hr1067 ((i).toNat)) ▸ hqi)) hg1074
         have hk1079 := hk1062.kept hg1074 ((fun eq => ha14 ((cut_block hr1067 ((i).toNat)) ▸ eq)))
         refine dk0 11 (v := pt b 0) h1070 rfl rfl ⟨hB1078, hk1079⟩ fun a1080 h1080 => ?_; clear h1070
         refine dk0 12 (v := pt b 1) h1080 rfl rfl ⟨hB1078, hk1079⟩ fun a1081 h1081 => ?_; clear h1080
         have hk1087 := hk1065.kept hg1074 (own_neT hr1068 hk1065 (by decide))
         refine d1D 13 h1081 rfl rfl (op_store1 rfl rfl rfl (row_one hr1073') Try.sizeOf39 hk1087 rfl) ?_ ?_; clear h1081
         ·
          rintro _ w1083 ⟨hk1084, hz1085, hg1086⟩
          have hk1084' : Blk w1083 b 67 #[.bool true, v1072, .map (some M)] := hk1084; clear hk1084
          have hz1088 := hg1086.size
          have hB1089 := fbU_at hB1078 hg1086 (fun hlt => by rcases hO.sb with hq | hq; exact hq; omega)
          have hk1090 := hk1079.kept hg1086 (by simp; omega)
          exact ⟨hB1089, hk1090⟩
         rintro _ w1083 a1082 ⟨hk1084, hz1085, hg1086⟩ h1082
         have hk1084' : Blk w1083 b 67 #[.bool true, v1072, .map (some M)] := hk1084; clear hk1084
         have hz1088 := hg1086.size
         refine dr_done (by kernel_rfl) ?_
         refine co_then ?_
         refine dr_gen (fun x => But (S) w0 x ∧ Blk x N9 47 #[.int .i64 c, .int .i64 r, v, .int .u64 ts] ∧ Blk x b 67 #[.bool true, v1072, .map (some M)]) (by kernel_rfl) (fun w1089 hg1090 => ?_) (fun w1089 hg1090 => ?_)
         ·
          have hz1091 := hg1090.size
          have hB1092 := fbU_at hB1078 hg1086 (fun hlt => by rcases hO.sb with hq | hq; exact hq; omega)
          have hB1093 := fbU_new hB1092 hg1090
          have hk1094 := hk1079.kept hg1086 (by simp; omega)
          have hk1095 := hk1094.kept hg1090 (by simp)
          have hk1096 := hk1084'.kept hg1090 (by simp)
          exact ⟨hB1093, hk1095, hk1096⟩
         have hz1097 := hg1090.size
         have hB1098 := fbU_at hB1078 hg1086 (fun hlt => by rcases hO.sb with hq | hq; exact hq; omega)
         have hB1099 := fbU_new hB1098 hg1090
         have hk1100 := hk1079.kept hg1086 (by simp; omega)
         have hk1101 := hk1100.kept hg1090 (by simp)
         have hk1102 := hk1084'.kept hg1090 (by simp)
         refine dk0 0 (v := pt b 0) h1082 rfl rfl ⟨hB1099, hk1101, hk1102⟩ fun a1103 h1103 => ?_; clear h1082
         refine dk0 1 (v := pt b 0) h1103 rfl rfl ⟨hB1099, hk1101, hk1102⟩ fun a1104 h1104 => ?_; clear h1103
         refine dk0 2 (v := pt b 2) h1104 rfl rfl ⟨hB1099, hk1101, hk1102⟩ fun a1105 h1105 => ?_; clear h1104
         refine dk 3 (v := .map (some M)) h1105 rfl rfl ⟨hB1099, hk1101, hk1102⟩ (fun x hx => (rn_load1 rfl rfl Try.isAgg65 (hx.2.2.cell rfl))) fun a1106 h1106 => ?_; clear h1105
         refine dk 4 (v := .agg #[.int .i64 c, .int .i64 r, v, .int .u64 ts]) h1106 rfl rfl ⟨hB1099, hk1101, hk1102⟩ (fun x hx => (rn_loadN rfl rfl Try.underlying47 rfl (by kernel_rfl) hx.2.1.all)) fun a1107 h1107 => ?_; clear h1106
         refine dk0 6 (v := .int .i64 i) h1107 rfl rfl ⟨hB1099, hk1101, hk1102⟩ fun a1108 h1108 => ?_; clear h1107
         refine dk0 7 (v := .agg #[.int .i64 i]) h1108 rfl rfl ⟨hB1099, hk1101, hk1102⟩ fun a1109 h1109 => ?_; clear h1108
         refine d1 5 h1109 rfl rfl (op_call (args := #[.agg #[.int .i64 c, .int .i64 r, v, .int .u64 ts]]) (R := fun res xw => res = .agg #[.int .i64 c, .int .i64 r] ∧ Below w1089.heap.size w1089 xw) rfl rfl rfl (by kernel_rfl) (by kernel_rfl) (Try.call87 _ _) (lname_any c r v ts w1089 ) (by rintro e x ⟨rfl, hb1112⟩; exact ⟨_, rfl, ⟨rfl, hb1112⟩⟩)) ?_ ?_; clear h1109
         ·
          rintro _ w1111 ⟨rfl, hb1112⟩
          have hz1113 := hb1112.size
          have hB1114 := fbU_call hB1099 hb1112
          have hk1115 := hk1101.below hb1112
          have hk1116 := hk1102.below hb1112
          exact ⟨hB1114, hk1115, hk1116⟩
         rintro _ w1111 a1110 ⟨rfl, hb1112⟩ h1110
         have hz1113 := hb1112.size
         have hB1114 := fbU_call hB1099 hb1112
         have hk1115 := hk1101.below hb1112
         have hk1116 := hk1102.below hb1112
         have hM1122 := hf37.kept hg49 (by simp)
         have hM1123 := hM1122.kept (below_grown hb837) (by simp)
         have hM1124 := hM1123.kept hg1050 (by simp)
         have hM1125 := hM1124.kept hg1074 (hM1124.row hr1068)
         have hM1126 := hM1125.kept hg1086 (by simp; omega)
         have hM1127 := hM1126.kept hg1090 (by simp)
         have hM1128 := hM1127.kept (below_grown hb1112) (by simp)
         refine d1D 8 h1110 rfl rfl (op_updateO (a := (c, r)) (v := i) nm_kl rfl rfl rfl rfl Try.underlying65 hM1128) ?_ ?_; clear h1110
         ·
          rintro _ w1118 ⟨hm1119, hz1120, hg1121⟩
          have hz1129 := hg1121.size
          have hl1130 := hm1119.lt
          have hB1131 := fbU_at hB1114 hg1121 (fun hlt => by rcases hO.sM with hq | hq; exact hq; omega)
          have hk1132 := hk1115.kept hg1121 (by simp; omega)
          have hk1133 := hk1116.kept hg1121 (by simp; omega)
          exact ⟨hB1131, hk1132, hk1133⟩
         rintro _ w1118 a1117 ⟨hm1119, hz1120, hg1121⟩ h1117
         have hz1129 := hg1121.size
         have hl1130 := hm1119.lt
         refine dr_done (by kernel_rfl) ?_
         refine co_ret0n h1117 rfl ?_
         have hr1131 := row_kept_row hr1076 hr1068 hg1074 (by decide)
         have hr1132 := row_kept_at hr1131 hg1086 (own_neT hr1131 hk1087 (by decide))
         have hr1133 := row_kept_new hr1132 hg1090
         have hr1134 := row_kept_new hr1133 (below_grown hb1112)
         have hr1135 := row_kept_at hr1134 hg1121 (hM1128.row hr1134)
         have hE1136 := hf36.new hg49
         have hE1137 := hE1136.new (below_grown hb837)
         have hE1138 := hE1137.new hg1050
         have hE1139 := hE1138.row hr1068 (by decide) hg1074
         have hE1140 := hE1139.blk hk1087 (by decide) hg1086
         have hE1141 := hE1140.new hg1090
         have hE1142 := hE1141.new (below_grown hb1112)
         have hE1143 := hE1142.map hM1128 hg1121
         have hr1144 := row_kept_at hr1073' hg1086 (own_neT hr1073' hk1087 (by decide))
         have hr1145 := row_kept_new hr1144 hg1090
         have hr1146 := row_kept_new hr1145 (below_grown hb1112)
         have hr1147 := row_kept_at hr1146 hg1121 (hM1128.row hr1146)
         have hk1148 := hk1116.kept hg1121 (by simp; omega)
         have hB1149 := fbU_at hB1114 hg1121 (fun hlt => by rcases hO.sM with hq | hq; exact hq; omega)
         have hEK : EntK S w0.heap.size w1118 (EntT.mk c r u835 l ts) := ⟨row_lows hr1135 (Nat.zero_le _), InS.low hr1135 (by omega), hlen, hen.1, hts.1, hts.2, hen.2.1, hen.2.2⟩
         have hEs := (EntsK.take hE1143 i.toNat).snoc hEK
         have hlt : (L.take i.toNat).length = i.toNat := by rw [List.length_take]; omega
         have hdl : (L.drop i.toNat).length = L.length - i.toNat := List.length_drop
         have hfs := findN_snoc (A := L.take i.toNat) (e := (EntT.mk c r u835 l ts)) hfn
         exact ⟨v1072, u835, rfl, ⟨hk1148, ⟨_, hm1119.eq ((by rw [delN_end hO.uq (by omega), hfs, hlt, Int.toNat_of_nonneg (by omega)]; rfl)) (Nat.le_refl _)⟩, (row_eq hr1147 (by first | rfl | simp)), hEs, hO.sb, hO.sM, ((show InS (S) w0.heap.size (subV u 0 ((i).toNat) 4) from fun qi hqi => hO.su qi ((cut_block hr1067 ((i).toNat)) ▸ hqi)).went hwt1075 (by omega)), ((hO.uq.take _).snoc hfn), (by rw [List.length_append, hlt]; simp; omega)⟩, trivial, hB1149⟩
   ·
    rw [hc46] at h45
    have hp1150 : ((k : Nat) : Int) < (((L.drop ((i).toNat)).length : Nat) : Int) := of_decide_eq_true hc46
    clear hc46
    refine co_true h45 rfl ?_
    refine wp_skip ?_
    refine co_then ?_
    refine co_seq ?_
    refine wp_block ?_
    refine co_seq ?_
    refine co_reg ?_
    obtain ⟨y1151, hy1151⟩ : ∃ z, (L.drop ((i).toNat))[k]? = some z := ⟨_, List.getElem?_eq_getElem (by first | omega | (simp; done) | (simp; omega))⟩
    have oky1151 := (fun (z : EntT) (_ : z ∈ L.drop i.toNat) => trivial) _ (List.mem_of_getElem? hy1151)
    have hLy1151 : L[i.toNat + k]? = some y1151 := by rw [← List.getElem?_drop]; exact hy1151
    have hy1152 := hf36.at hLy1151
    have hq1153 := hy1152.ts0; have hq1154 := hy1152.ts1; have hq1155 := hy1152.len; have hq1156 := wf_i64 hy1152.cl; have hq1157 := wf_i64 hy1152.rq
    refine pk (v := pt (blkOf (subV u ((i).toNat) L.length 4)) (offOf (subV u ((i).toNat) L.length 4) + k * 4)) h45 rfl (rn_index rfl rfl rfl Try.underlying39 Try.sizeOf47 (sl_drop (row_sl hf35 entE_len) _ (by omega)) (by omega) (by first | omega | (simp; done) | (simp; omega))) fun a1158 h1158 => ?_; clear h45
    refine pk (v := .agg #[.int .i64 y1151.client, .int .i64 y1151.req, y1151.ops, .int .u64 y1151.ts]) h1158 rfl (rn_loadN rfl rfl Try.underlying47 rfl (by kernel_rfl) (sl_at (sl_drop (row_sl hf35 entE_len) _ (by omega)) hy1151)) fun a1159 h1159 => ?_; clear h1158
    refine pw h1159 rfl (op_new (v := fun N => pt N 0) (T := 47) (cs := #[.int .i64 0, .int .i64 0, .slice none 0 0, .int .u64 0]) (by kernel_rfl) (by kernel_rfl) (by kernel_rfl)) ?_; clear h1159
    rintro _ w1161 a1160 ⟨N1162, rfl, hN1165, hz1166, hk1164, hg1163⟩ h1160
    have ha1167 := row_fresh hf35 hN1165
    have hu1168 := row_under hf35 hN1165
    have ha1169 := row_fresh hy1152.row hN1165
    have hu1170 := row_under hy1152.row hN1165
    have hz1171 := hg1163.size
    try dsimp only at h1160
    have hr1177 := row_kept_new hy1152.row hg1163
    refine pwD h1160 rfl (op_storeN rfl rfl rfl (all_cons rfl (all_cons rfl (all_cons (row_one hr1177) (all_cons rfl all_nil)))) (by kernel_rfl) hk1164 rfl) ?_; clear h1160
    rintro _ w1173 a1172 ⟨hk1174, hz1175, hg1176⟩ h1172
    have hk1174' : Blk w1173 N1162 47 #[.int .i64 y1151.client, .int .i64 y1151.req, y1151.ops, .int .u64 y1151.ts] := hk1174; clear hk1174
    have hz1178 := hg1176.size
    refine pl_nil ?_
    refine co_then ?_
    refine dr_gen (fun x => But (S) w0 x ∧ Blk x b 67 #[.bool true, u, .map (some M)] ∧ Blk x N1162 47 #[.int .i64 y1151.client, .int .i64 y1151.req, y1151.ops, .int .u64 y1151.ts]) (by kernel_rfl) (fun w1179 hg1180 => ?_) (fun w1179 hg1180 => ?_)
    ·
     have hz1181 := hg1180.size
     have hB1182 := fbU_new hB38 hg1163
     have hB1183 := fbU_at hB1182 hg1176 (fun hlt => absurd hlt (by omega))
     have hB1184 := fbU_new hB1183 hg1180
     have hk1185 := hk39.kept hg1163 (by simp)
     have hk1186 := hk1185.kept hg1176 (by simp; omega)
     have hk1187 := hk1186.kept hg1180 (by simp)
     have hk1188 := hk1174'.kept hg1180 (by simp)
     exact ⟨hB1184, hk1187, hk1188⟩
    have hz1189 := hg1180.size
    have hB1190 := fbU_new hB38 hg1163
    have hB1191 := fbU_at hB1190 hg1176 (fun hlt => absurd hlt (by omega))
    have hB1192 := fbU_new hB1191 hg1180
    have hk1193 := hk39.kept hg1163 (by simp)
    have hk1194 := hk1193.kept hg1176 (by simp; omega)
    have hk1195 := hk1194.kept hg1180 (by simp)
    have hk1196 := hk1174'.kept hg1180 (by simp)
    refine dk0 0 (v := pt b 0) h1172 rfl rfl ⟨hB1192, hk1195, hk1196⟩ fun a1197 h1197 => ?_; clear h1172
    refine dk0 1 (v := pt b 0) h1197 rfl rfl ⟨hB1192, hk1195, hk1196⟩ fun a1198 h1198 => ?_; clear h1197
    refine dk0 2 (v := pt b 2) h1198 rfl rfl ⟨hB1192, hk1195, hk1196⟩ fun a1199 h1199 => ?_; clear h1198
    refine dk 3 (v := .map (some M)) h1199 rfl rfl ⟨hB1192, hk1195, hk1196⟩ (fun x hx => (rn_load1 rfl rfl Try.isAgg65 (hx.2.1.cell rfl))) fun a1200 h1200 => ?_; clear h1199
    refine dk 4 (v := .agg #[.int .i64 y1151.client, .int .i64 y1151.req, y1151.ops, .int .u64 y1151.ts]) h1200 rfl rfl ⟨hB1192, hk1195, hk1196⟩ (fun x hx => (rn_loadN rfl rfl Try.underlying47 rfl (by kernel_rfl) hx.2.2.all)) fun a1201 h1201 => ?_; clear h1200
    refine d1 5 h1201 rfl rfl (op_call (args := #[.agg #[.int .i64 y1151.client, .int .i64 y1151.req, y1151.ops, .int .u64 y1151.ts]]) (R := fun res xw => res = .agg #[.int .i64 y1151.client, .int .i64 y1151.req] ∧ Below w1179.heap.size w1179 xw) rfl rfl rfl (by kernel_rfl) (by kernel_rfl) (Try.call87 _ _) (lname_any y1151.client y1151.req y1151.ops y1151.ts w1179 ) (by rintro e x ⟨rfl, hb1204⟩; exact ⟨_, rfl, ⟨rfl, hb1204⟩⟩)) ?_ ?_; clear h1201
    ·
     rintro _ w1203 ⟨rfl, hb1204⟩
     have hz1205 := hb1204.size
     have hB1206 := fbU_call hB1192 hb1204
     have hk1207 := hk1195.below hb1204
     have hk1208 := hk1196.below hb1204
     exact ⟨hB1206, hk1207, hk1208⟩
    rintro _ w1203 a1202 ⟨rfl, hb1204⟩ h1202
    have hz1205 := hb1204.size
    have hB1206 := fbU_call hB1192 hb1204
    have hk1207 := hk1195.below hb1204
    have hk1208 := hk1196.below hb1204
    have hM1214 := hf37.kept hg1163 (by simp)
    have hM1215 := hM1214.kept hg1176 (by simp; omega)
    have hM1216 := hM1215.kept hg1180 (by simp)
    have hM1217 := hM1216.kept (below_grown hb1204) (by simp)
    refine d1D 6 h1202 rfl rfl (op_deleteO (a := (y1151.client, y1151.req)) nm_kl rfl rfl rfl Try.underlying65 hM1217) ?_ ?_; clear h1202
    ·
     rintro _ w1210 ⟨hm1211, hz1212, hg1213⟩
     have hz1218 := hg1213.size
     have hl1219 := hm1211.lt
     have hB1220 := fbU_at hB1206 hg1213 (fun hlt => by rcases hO.sM with hq | hq; exact hq; omega)
     have hk1221 := hk1207.kept hg1213 (by simp; omega)
     have hk1222 := hk1208.kept hg1213 (by simp; omega)
     exact ⟨hB1220, hk1221, hk1222⟩
    rintro _ w1210 a1209 ⟨hm1211, hz1212, hg1213⟩ h1209
    have hz1218 := hg1213.size
    have hl1219 := hm1211.lt
    refine dr_done (by kernel_rfl) ?_
    refine co_blockN ?_
    refine co_then ?_
    refine co_reg ?_
    refine pk (v := .int .i64 ((k + 1 : Nat) : Int)) h1209 rfl (rn_arith' rfl rfl rfl rfl rfl rfl (IntWalk.i64_in _ (by omega)) (by omega)) fun a1220 h1220 => ?_; clear h1209
    refine pk0 (v := .int .i64 ((k + 1 : Nat) : Int)) h1220 rfl fun a1221 h1221 => ?_; clear h1220
    refine pl_nil ?_
    refine co_then ?_
    refine ⟨(L.length - i.toNat - (k + 1)), by omega, ?_⟩
    have hr1222 := row_kept_new hf35 hg1163
    have hr1223 := row_kept_at hr1222 hg1176 (ha1167)
    have hr1224 := row_kept_new hr1223 hg1180
    have hr1225 := row_kept_new hr1224 (below_grown hb1204)
    have hr1226 := row_kept_at hr1225 hg1213 (hM1217.row hr1225)
    have hE1227 := hf36.new hg1163
    have hE1228 := hE1227.blk hk1164 (by decide) hg1176
    have hE1229 := hE1228.new hg1180
    have hE1230 := hE1229.new (below_grown hb1204)
    have hE1231 := hE1230.map hM1217 hg1213
    have hB1232 := fbU_at hB1206 hg1213 (fun hlt => by rcases hO.sM with hq | hq; exact hq; omega)
    have hk1233 := hk1207.kept hg1213 (by simp; omega)
    have hk1234 := hk40.kept hg1163 (by simp)
    have hk1235 := hk1234.kept hg1176 (by simp; omega)
    have hk1236 := hk1235.kept hg1180 (by simp)
    have hk1237 := hk1236.below hb1204
    have hk1238 := hk1237.kept hg1213 (by simp; omega)
    exact ⟨k + 1, h1221.sub ⟨rfl, rfl, rfl, rfl, rfl, rfl, trivial⟩, rfl, by omega, hr1226, hE1231, (hm1211.eq (by first | exact (delN_0 _ _).symm | exact delN_step (by assumption)) (Nat.le_refl _)), hB1232, hk1233, hk1238⟩
end Go.Proofs.Ythmnndbpadegnaa
