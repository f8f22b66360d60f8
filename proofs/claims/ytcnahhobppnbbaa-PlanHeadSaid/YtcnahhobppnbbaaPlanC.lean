/- Package plan: chain. Conditions: at most 4 members, at most 1000 who join. -/
import Derived.Test.YtcnahhobppnbbaaPlanB
namespace Go.Proofs.Ytcnahhobppnbbaa
open Go.RowKit Go.PlainAid
set_option linter.unusedVariables false


theorem keep_acc {ms : List MemT} {lg gn : List Int} (h : ms.length ≤ 4) : (keepL ms lg gn).length ≤ 4 := Nat.le_trans (keep_le ms lg gn) h
theorem stay_acc {ms : List MemT} {lg gn : List Int} (h : ms.length ≤ 4) : (stayL ms lg gn).length ≤ 4 := Nat.le_trans (stayL_le ms lg gn) h

set_option maxRecDepth 100000 in
theorem addA_any (w0 : World) (v : Value) (l : List MemT) (u : Value) (acc : List MemT) (gn : List Int) (lg : List Int) (C : Nat) (mt : Nat) (mg : Nat) (T : Nat) (G : Nat) (L : Nat) (ep : Int) (mv : Value) (fl : Int) (w : World) (hs : SliceOf memE 2 w0 v l) (hmk : ∀ z ∈ l, memOk z) (hbw : Below w0.heap.size w0 w) (hL : Blk w L 89 #[u]) (hC : Blk w C 91 #[.int .i64 ep, mv, .int .u64 fl]) (hG : Blk w G 180 #[.map (some mg)]) (hT : Blk w T 180 #[.map (some mt)]) (hmg : MapG intK intK 0 w mg (cntL gn)) (hmt : MapG intK intK 0 w mt (cntL lg)) (hord : w0.heap.size ≤ C ∧ C < mt ∧ mt < mg ∧ mg < T ∧ T < G ∧ G < L) (hlen : acc.length ≤ 4 ∧ l.length ≤ 1000) (hr : w.ownsRow w0.heap.size 114 2 u acc.length (acc.flatMap memE)) :
    Calls Try.prog 123 #[v, .func (.func 124) #[] #[pt G 0, pt T 0], pt L 0] w fun e w' => ∃ (u' : Value), e = .returned (.tuple #[]) ∧ Blk w' L 89 #[u'] ∧ w'.ownsRow w0.heap.size 114 2 u' (acc ++ l.filter (selA lg gn)).length ((acc ++ l.filter (selA lg gn)).flatMap memE) ∧ Blk w' C 91 #[.int .i64 ep, mv, .int .u64 fl] ∧ Blk w' G 180 #[.map (some mg)] ∧ Blk w' T 180 #[.map (some mt)] ∧ MapG intK intK 0 w' mg (cntL gn) ∧ MapG intK intK 0 w' mt (cntL lg) ∧ Below w0.heap.size w0 w' := by
 have hB0 := hbw
 have hz0 := hbw.size
 have hl_hs := sl_len hs
 have hl_hL := hL.lt
 have hl_hC := hC.lt
 have hl_hG := hG.lt
 have hl_hT := hT.lt
 have hlmg := hmg.lt
 have hlmt := hmt.lt
 have hl_acc := sl_len (row_sl hr memE_len)
 have hlr := hr.1
 refine co_enter (n := 21) Try.func123 rfl rfl rfl [(0, v), (1, .func (.func 124) #[] #[pt G 0, pt T 0]), (2, pt L 0)] rfl (fun a h0 => ?_)
 refine co_seq ?_
 refine co_reg ?_
 refine pk0 (v := v) h0 rfl fun a1 h1 => ?_; clear h0
 refine pk (v := .int .i64 ((l.length : Nat) : Int)) h1 rfl (rn_len rfl rfl Try.underlying89 (hs.below hB0)) fun a2 h2 => ?_; clear h1
 refine pk0 (v := .int .i64 0) h2 rfl fun a3 h3 => ?_; clear h2
 refine pl_nil ?_
 refine co_then ?_
 refine wp_block ?_
 have h4 : Slots 21 [(0, v), (1, .func (.func 124) #[] #[pt G 0, pt T 0]), (2, pt L 0), (7, v), (8, .int .i64 ((l.length : Nat) : Int)), (9, .int .i64 0)] _ := h3.sub ⟨rfl, rfl, rfl, rfl, rfl, rfl, trivial⟩; clear h3
 refine co_loop (fun mm a x => ∃ (i : Nat) (u1 : Value), Slots 21 [(0, v), (1, .func (.func 124) #[] #[pt G 0, pt T 0]), (2, pt L 0), (7, v), (8, .int .i64 ((l.length : Nat) : Int)), (9, .int .i64 ((i : Nat) : Int))] a ∧ mm = l.length - i ∧ (i ≤ l.length) ∧ Blk x L 89 #[u1] ∧ x.ownsRow w0.heap.size 114 2 u1 (acc ++ (l.take i).filter (selA lg gn)).length ((acc ++ (l.take i).filter (selA lg gn)).flatMap memE) ∧ MapG intK intK 0 x mg (cntL gn) ∧ MapG intK intK 0 x mt (cntL lg) ∧ Below w0.heap.size w0 x ∧ Blk x C 91 #[.int .i64 ep, mv, .int .u64 fl] ∧ Blk x G 180 #[.map (some mg)] ∧ Blk x T 180 #[.map (some mt)]) (l.length - 0) ?_ ?_
 · exact ⟨0, u, h4.sub ⟨rfl, rfl, rfl, rfl, rfl, (slot_eq rfl (congrArg (Value.int .i64) (by first | rfl | omega))), trivial⟩, rfl, by omega, hL, (row_eq hr (by first | exact (List.append_nil _).symm | exact app_yes (by assumption) (by assumption) | exact app_no (by assumption) (by assumption))), hmg, hmt, hB0, hC, hG, hT⟩
 · rintro k5 a6 w7 ⟨i, u1, h6, rfl, hi8, hf9, hf10, hf11, hf12, hB13, hk14, hk15, hk16⟩
   have hz17 := hB13.size
   have hl18 := hk14.lt
   have hl19 := hk15.lt
   have hl20 := hk16.lt
   have hl21 := hf9.lt
   have hl22 := hf11.lt
   have hl23 := hf12.lt
   have hjl := filt_take (p := selA lg gn) (l := l) (i := i)
   refine co_seq ?_
   refine co_reg ?_
   refine pk0 (v := .bool (decide (((i : Nat) : Int) < ((l.length : Nat) : Int)))) h6 rfl fun a24 h24 => ?_; clear h6
   refine pl_nil ?_
   refine co_then ?_
   refine co_seq ?_
   cases hc25 : (decide (((i : Nat) : Int) < ((l.length : Nat) : Int)))
   ·
    rw [hc25] at h24
    have hp26 : ¬ (((i : Nat) : Int) < ((l.length : Nat) : Int)) := of_decide_eq_false hc25
    clear hc25
    refine co_false h24 rfl ?_
    refine wp_exit ?_
    refine co_thenX ?_
    refine co_thenX ?_
    refine co_blockX ?_
    refine co_ret0n h24 rfl ?_
    exact ⟨_, rfl, hf9, (row_eq (row_lows hf10 (by omega)) (filt_end (by omega))), hk14, hk15, hk16, hf11, hf12, hB13⟩
   ·
    rw [hc25] at h24
    have hp27 : ((i : Nat) : Int) < ((l.length : Nat) : Int) := of_decide_eq_true hc25
    clear hc25
    refine co_true h24 rfl ?_
    refine wp_skip ?_
    refine co_then ?_
    refine co_seq ?_
    refine wp_block ?_
    refine co_seq ?_
    refine co_reg ?_
    obtain ⟨y28, hy28⟩ : ∃ z, l[i]? = some z := ⟨_, List.getElem?_eq_getElem (by first | omega | (simp; done) | (simp; omega))⟩
    have oky28 := hmk _ (List.mem_of_getElem? hy28)
    refine pk (v := pt (blkOf v) (offOf v + i * 2)) h24 rfl (rn_index rfl rfl rfl Try.underlying89 Try.sizeOf114 (hs.below hB13) (by omega) (by first | omega | (simp; done) | (simp; omega))) fun a29 h29 => ?_; clear h24
    refine pk (v := .agg #[.int .i64 y28.1, .int .i64 y28.2]) h29 rfl (rn_loadN rfl rfl Try.underlying114 rfl (by kernel_rfl) (sl_at (hs.below hB13) hy28)) fun a30 h30 => ?_; clear h29
    refine pw h30 rfl (op_new (v := fun N => pt N 0) (T := 114) (cs := #[.int .i64 0, .int .i64 0]) (by kernel_rfl) (by kernel_rfl) (by kernel_rfl)) ?_; clear h30
    rintro _ w32 a31 ⟨N33, rfl, hN36, hz37, hk35, hg34⟩ h31
    have ha38 := row_fresh hf10 hN36
    have hz39 := hg34.size
    try dsimp only at h31
    refine pwD h31 rfl (op_storeN rfl rfl rfl (by kernel_rfl) (by kernel_rfl) hk35 rfl) ?_; clear h31
    rintro _ w41 a40 ⟨hk42, hz43, hg44⟩ h40
    have hk42' : Blk w41 N33 114 #[.int .i64 y28.1, .int .i64 y28.2] := hk42; clear hk42
    have hz45 := hg44.size
    refine pl_nil ?_
    refine co_then ?_
    refine co_seq ?_
    refine co_reg ?_
    refine pk0 (v := .func (.func 124) #[] #[pt G 0, pt T 0]) h40 rfl fun a46 h46 => ?_; clear h40
    refine pk (v := .agg #[.int .i64 y28.1, .int .i64 y28.2]) h46 rfl (rn_loadN rfl rfl Try.underlying114 rfl (by kernel_rfl) hk42'.all) fun a47 h47 => ?_; clear h46
    have hI50 := hf11.kept hg34 (by simp)
    have hI51 := hI50.kept hg44 (by simp; omega)
    have hI52 := hf12.kept hg34 (by simp)
    have hI53 := hI52.kept hg44 (by simp; omega)
    have hk54 := hk15.kept hg34 (by simp)
    have hk55 := hk54.kept hg44 (by simp; omega)
    have hk56 := hk16.kept hg34 (by simp)
    have hk57 := hk56.kept hg44 (by simp; omega)
    refine pw h47 rfl (op_callV (args := #[.agg #[.int .i64 y28.1, .int .i64 y28.2], pt G 0, pt T 0]) (R := fun res xw => res = .bool (selA lg gn y28) ∧ Below w41.heap.size w41 xw) rfl rfl rfl (by kernel_rfl) (by kernel_rfl) (Try.call124 _ _) (selA_any y28 G T mg mt gn lg w41 hk55 hk57 hI51 hI53) (by rintro e x ⟨rfl, hb58⟩; exact ⟨_, rfl, ⟨rfl, hb58⟩⟩)) ?_; clear h47
    rintro _ w49 a48 ⟨rfl, hb58⟩ h48
    have hz59 := hb58.size
    refine pl_nil ?_
    refine co_then ?_
    have hB61 := hb_new hB13 hg34
    have hB62 := hb_at hB61 hg44 (by omega)
    have hB63 := hb_call hB62 hb58
    have hk64 := hk14.kept hg34 (by simp)
    have hk65 := hk64.kept hg44 (by simp; omega)
    have hk66 := hk65.below hb58
    have hk67 := hf9.kept hg34 (by simp)
    have hk68 := hk67.kept hg44 (by simp; omega)
    have hk69 := hk68.below hb58
    have hr70 := row_kept_new hf10 hg34
    have hr71 := row_kept_at hr70 hg44 (ha38)
    have hr72 := row_kept_new hr71 (below_grown hb58)
    cases hc60 : (selA lg gn y28)
    ·
     rw [hc60] at h48
     refine co_false h48 rfl ?_
     refine wp_skip ?_
     refine co_blockN ?_
     refine co_then ?_
     refine co_reg ?_
     refine pk (v := .int .i64 ((i + 1 : Nat) : Int)) h48 rfl (rn_arith' rfl rfl rfl rfl rfl rfl (IntWalk.i64_in _ (by omega)) (by omega)) fun a73 h73 => ?_; clear h48
     refine pk0 (v := .int .i64 ((i + 1 : Nat) : Int)) h73 rfl fun a74 h74 => ?_; clear h73
     refine pl_nil ?_
     refine co_then ?_
     refine ⟨(l.length - (i + 1)), by omega, ?_⟩
     have hI75 := hI51.kept (below_grown hb58) (by simp)
     have hI76 := hI53.kept (below_grown hb58) (by simp)
     have hk77 := hk55.below hb58
     have hk78 := hk57.below hb58
     exact ⟨i + 1, u1, h74.sub ⟨rfl, rfl, rfl, rfl, rfl, rfl, trivial⟩, rfl, by omega, hk69, (row_eq hr72 (by first | exact (List.append_nil _).symm | exact app_yes (by assumption) (by assumption) | exact app_no (by assumption) (by assumption))), hI75, hI76, hB63, hk66, hk77, hk78⟩
    ·
     rw [hc60] at h48
     refine co_true h48 rfl ?_
     refine co_reg ?_
     refine pk (v := u1) h48 rfl (rn_load1 rfl rfl Try.isAgg89 (hk69.cell rfl)) fun a79 h79 => ?_; clear h48
     have hk80 := hk42'.below hb58
     refine pk (v := .agg #[.int .i64 y28.1, .int .i64 y28.2]) h79 rfl (rn_loadN rfl rfl Try.underlying114 rfl (by kernel_rfl) hk80.all) fun a81 h81 => ?_; clear h79
     refine pw h81 rfl (op_new (v := fun N => .slice (some ⟨N, 0, none⟩) 1 1) (T := 114) (cs := #[.int .i64 y28.1, .int .i64 y28.2]) (by kernel_rfl) (by kernel_rfl) (by kernel_rfl)) ?_; clear h81
     rintro _ w83 a82 ⟨N84, rfl, hN87, hz88, hk86, hg85⟩ h82
     have ha89 := row_fresh hr72 hN87
     have hz90 := hg85.size
     try dsimp only at h82
     have hr97 := row_kept_new hr72 hg85
     refine pw h82 rfl (op_append rfl w0.heap.size 114 (z := .agg #[.int .i64 0, .int .i64 0]) (size := 2) (bytes := 16) Try.underlying89 (by kernel_rfl) rfl rfl rfl hr97 rfl hk86 rfl (by kernel_rfl) (by first | omega | (simp only [List.length_nil, List.length_append, List.length_cons, List.length_take, List.length_drop]; omega)) (by first | omega | (simp only [List.length_nil, List.length_append, List.length_cons, List.length_take, List.length_drop]; omega)) (by omega)) ?_; clear h82
     rintro v93 w92 a91 ⟨hr94, hg95⟩ h91
     have hr94' : w92.ownsRow w0.heap.size 114 2 v93 ((acc ++ (l.take i).filter (selA lg gn) ++ [(y28.1, y28.2)]).length) ((acc ++ (l.take i).filter (selA lg gn) ++ [(y28.1, y28.2)]).flatMap memE) := row_push (y := (y28.1, y28.2)) hr94 rfl rfl; clear hr94
     have hz98 := hg95.size
     have hk104 := hk69.kept hg85 (by simp)
     have hk105 := hk104.kept hg95 (own_neT hr97 hk104 (by decide))
     refine pwD h91 rfl (op_store1 rfl rfl rfl (row_one hr94') Try.sizeOf89 hk105 rfl) ?_; clear h91
     rintro _ w100 a99 ⟨hk101, hz102, hg103⟩ h99
     have hk101' : Blk w100 L 89 #[v93] := hk101; clear hk101
     have hz106 := hg103.size
     refine pl_nil ?_
     refine co_blockN ?_
     refine co_then ?_
     refine co_reg ?_
     refine pk (v := .int .i64 ((i + 1 : Nat) : Int)) h99 rfl (rn_arith' rfl rfl rfl rfl rfl rfl (IntWalk.i64_in _ (by omega)) (by omega)) fun a107 h107 => ?_; clear h99
     refine pk0 (v := .int .i64 ((i + 1 : Nat) : Int)) h107 rfl fun a108 h108 => ?_; clear h107
     refine pl_nil ?_
     refine co_then ?_
     refine ⟨(l.length - (i + 1)), by omega, ?_⟩
     have hr109 := row_kept_at hr94' hg103 (own_neT hr94' hk105 (by decide))
     have hI110 := hI51.kept (below_grown hb58) (by simp)
     have hI111 := hI110.kept hg85 (by simp)
     have hI112 := hI111.kept hg95 (hI111.row hr97)
     have hI113 := hI112.kept hg103 (by simp; omega)
     have hI114 := hI53.kept (below_grown hb58) (by simp)
     have hI115 := hI114.kept hg85 (by simp)
     have hI116 := hI115.kept hg95 (hI115.row hr97)
     have hI117 := hI116.kept hg103 (by simp; omega)
     have hB118 := hb_new hB63 hg85
     have hB119 := hb_row hB118 hr97 (by omega) hg95
     have hB120 := hb_at hB119 hg103 (by omega)
     have hk121 := hk66.kept hg85 (by simp)
     have hk122 := hk121.kept hg95 (own_neT hr97 hk121 (by decide))
     have hk123 := hk122.kept hg103 (by simp; omega)
     have hk124 := hk55.below hb58
     have hk125 := hk124.kept hg85 (by simp)
     have hk126 := hk125.kept hg95 (own_neT hr97 hk125 (by decide))
     have hk127 := hk126.kept hg103 (by simp; omega)
     have hk128 := hk57.below hb58
     have hk129 := hk128.kept hg85 (by simp)
     have hk130 := hk129.kept hg95 (own_neT hr97 hk129 (by decide))
     have hk131 := hk130.kept hg103 (by simp; omega)
     exact ⟨i + 1, v93, h108.sub ⟨rfl, rfl, rfl, rfl, rfl, rfl, trivial⟩, rfl, by omega, hk101', (row_eq hr109 (by first | exact (List.append_nil _).symm | exact app_yes (by assumption) (by assumption) | exact app_no (by assumption) (by assumption))), hI113, hI117, hB120, hk123, hk127, hk131⟩
set_option maxRecDepth 100000 in
theorem addB_any (w0 : World) (v : Value) (l : List MemT) (u : Value) (acc : List MemT) (gn : List Int) (lg : List Int) (C : Nat) (mt : Nat) (mg : Nat) (T : Nat) (G : Nat) (L : Nat) (ep : Int) (mv : Value) (fl : Int) (w : World) (hs : SliceOf memE 2 w0 v l) (hmk : ∀ z ∈ l, memOk z) (hbw : Below w0.heap.size w0 w) (hL : Blk w L 89 #[u]) (hC : Blk w C 91 #[.int .i64 ep, mv, .int .u64 fl]) (hG : Blk w G 180 #[.map (some mg)]) (hT : Blk w T 180 #[.map (some mt)]) (hmg : MapG intK intK 0 w mg (cntL gn)) (hmt : MapG intK intK 0 w mt (cntL lg)) (hord : w0.heap.size ≤ C ∧ C < mt ∧ mt < mg ∧ mg < T ∧ T < G ∧ G < L) (hlen : acc.length ≤ 4 ∧ l.length ≤ 1000) (hr : w.ownsRow w0.heap.size 114 2 u acc.length (acc.flatMap memE)) :
    Calls Try.prog 123 #[v, .func (.func 125) #[] #[pt G 0, pt T 0], pt L 0] w fun e w' => ∃ (u' : Value), e = .returned (.tuple #[]) ∧ Blk w' L 89 #[u'] ∧ w'.ownsRow w0.heap.size 114 2 u' (acc ++ l.filter (selB lg gn)).length ((acc ++ l.filter (selB lg gn)).flatMap memE) ∧ Blk w' C 91 #[.int .i64 ep, mv, .int .u64 fl] ∧ Blk w' G 180 #[.map (some mg)] ∧ Blk w' T 180 #[.map (some mt)] ∧ MapG intK intK 0 w' mg (cntL gn) ∧ MapG intK intK 0 w' mt (cntL lg) ∧ Below w0.heap.size w0 w' := by
 have hB0 := hbw
 have hz0 := hbw.size
 have hl_hs := sl_len hs
 have hl_hL := hL.lt
 have hl_hC := hC.lt
 have hl_hG := hG.lt
 have hl_hT := hT.lt
 have hlmg := hmg.lt
 have hlmt := hmt.lt
 have hl_acc := sl_len (row_sl hr memE_len)
 have hlr := hr.1
 refine co_enter (n := 21) Try.func123 rfl rfl rfl [(0, v), (1, .func (.func 125) #[] #[pt G 0, pt T 0]), (2, pt L 0)] rfl (fun a h0 => ?_)
 refine co_seq ?_
 refine co_reg ?_
 refine pk0 (v := v) h0 rfl fun a1 h1 => ?_; clear h0
 refine pk (v := .int .i64 ((l.length : Nat) : Int)) h1 rfl (rn_len rfl rfl Try.underlying89 (hs.below hB0)) fun a2 h2 => ?_; clear h1
 refine pk0 (v := .int .i64 0) h2 rfl fun a3 h3 => ?_; clear h2
 refine pl_nil ?_
 refine co_then ?_
 refine wp_block ?_
 have h4 : Slots 21 [(0, v), (1, .func (.func 125) #[] #[pt G 0, pt T 0]), (2, pt L 0), (7, v), (8, .int .i64 ((l.length : Nat) : Int)), (9, .int .i64 0)] _ := h3.sub ⟨rfl, rfl, rfl, rfl, rfl, rfl, trivial⟩; clear h3
 refine co_loop (fun mm a x => ∃ (i : Nat) (u1 : Value), Slots 21 [(0, v), (1, .func (.func 125) #[] #[pt G 0, pt T 0]), (2, pt L 0), (7, v), (8, .int .i64 ((l.length : Nat) : Int)), (9, .int .i64 ((i : Nat) : Int))] a ∧ mm = l.length - i ∧ (i ≤ l.length) ∧ Blk x L 89 #[u1] ∧ x.ownsRow w0.heap.size 114 2 u1 (acc ++ (l.take i).filter (selB lg gn)).length ((acc ++ (l.take i).filter (selB lg gn)).flatMap memE) ∧ MapG intK intK 0 x mg (cntL gn) ∧ MapG intK intK 0 x mt (cntL lg) ∧ Below w0.heap.size w0 x ∧ Blk x C 91 #[.int .i64 ep, mv, .int .u64 fl] ∧ Blk x G 180 #[.map (some mg)] ∧ Blk x T 180 #[.map (some mt)]) (l.length - 0) ?_ ?_
 · exact ⟨0, u, h4.sub ⟨rfl, rfl, rfl, rfl, rfl, (slot_eq rfl (congrArg (Value.int .i64) (by first | rfl | omega))), trivial⟩, rfl, by omega, hL, (row_eq hr (by first | exact (List.append_nil _).symm | exact app_yes (by assumption) (by assumption) | exact app_no (by assumption) (by assumption))), hmg, hmt, hB0, hC, hG, hT⟩
 · rintro k5 a6 w7 ⟨i, u1, h6, rfl, hi8, hf9, hf10, hf11, hf12, hB13, hk14, hk15, hk16⟩
   have hz17 := hB13.size
   have hl18 := hk14.lt
   have hl19 := hk15.lt
   have hl20 := hk16.lt
   have hl21 := hf9.lt
   have hl22 := hf11.lt
   have hl23 := hf12.lt
   have hjl := filt_take (p := selB lg gn) (l := l) (i := i)
   refine co_seq ?_
   refine co_reg ?_
   refine pk0 (v := .bool (decide (((i : Nat) : Int) < ((l.length : Nat) : Int)))) h6 rfl fun a24 h24 => ?_; clear h6
   refine pl_nil ?_
   refine co_then ?_
   refine co_seq ?_
   cases hc25 : (decide (((i : Nat) : Int) < ((l.length : Nat) : Int)))
   ·
    rw [hc25] at h24
    have hp26 : ¬ (((i : Nat) : Int) < ((l.length : Nat) : Int)) := of_decide_eq_false hc25
    clear hc25
    refine co_false h24 rfl ?_
    refine wp_exit ?_
    refine co_thenX ?_
    refine co_thenX ?_
    refine co_blockX ?_
    refine co_ret0n h24 rfl ?_
    exact ⟨_, rfl, hf9, (row_eq (row_lows hf10 (by omega)) (filt_end (by omega))), hk14, hk15, hk16, hf11, hf12, hB13⟩
   ·
    rw [hc25] at h24
    have hp27 : ((i : Nat) : Int) < ((l.length : Nat) : Int) := of_decide_eq_true hc25
    clear hc25
    refine co_true h24 rfl ?_
    refine wp_skip ?_
    refine co_then ?_
    refine co_seq ?_
    refine wp_block ?_
    refine co_seq ?_
    refine co_reg ?_
    obtain ⟨y28, hy28⟩ : ∃ z, l[i]? = some z := ⟨_, List.getElem?_eq_getElem (by first | omega | (simp; done) | (simp; omega))⟩
    have oky28 := hmk _ (List.mem_of_getElem? hy28)
    refine pk (v := pt (blkOf v) (offOf v + i * 2)) h24 rfl (rn_index rfl rfl rfl Try.underlying89 Try.sizeOf114 (hs.below hB13) (by omega) (by first | omega | (simp; done) | (simp; omega))) fun a29 h29 => ?_; clear h24
    refine pk (v := .agg #[.int .i64 y28.1, .int .i64 y28.2]) h29 rfl (rn_loadN rfl rfl Try.underlying114 rfl (by kernel_rfl) (sl_at (hs.below hB13) hy28)) fun a30 h30 => ?_; clear h29
    refine pw h30 rfl (op_new (v := fun N => pt N 0) (T := 114) (cs := #[.int .i64 0, .int .i64 0]) (by kernel_rfl) (by kernel_rfl) (by kernel_rfl)) ?_; clear h30
    rintro _ w32 a31 ⟨N33, rfl, hN36, hz37, hk35, hg34⟩ h31
    have ha38 := row_fresh hf10 hN36
    have hz39 := hg34.size
    try dsimp only at h31
    refine pwD h31 rfl (op_storeN rfl rfl rfl (by kernel_rfl) (by kernel_rfl) hk35 rfl) ?_; clear h31
    rintro _ w41 a40 ⟨hk42, hz43, hg44⟩ h40
    have hk42' : Blk w41 N33 114 #[.int .i64 y28.1, .int .i64 y28.2] := hk42; clear hk42
    have hz45 := hg44.size
    refine pl_nil ?_
    refine co_then ?_
    refine co_seq ?_
    refine co_reg ?_
    refine pk0 (v := .func (.func 125) #[] #[pt G 0, pt T 0]) h40 rfl fun a46 h46 => ?_; clear h40
    refine pk (v := .agg #[.int .i64 y28.1, .int .i64 y28.2]) h46 rfl (rn_loadN rfl rfl Try.underlying114 rfl (by kernel_rfl) hk42'.all) fun a47 h47 => ?_; clear h46
    have hI50 := hf11.kept hg34 (by simp)
    have hI51 := hI50.kept hg44 (by simp; omega)
    have hI52 := hf12.kept hg34 (by simp)
    have hI53 := hI52.kept hg44 (by simp; omega)
    have hk54 := hk15.kept hg34 (by simp)
    have hk55 := hk54.kept hg44 (by simp; omega)
    have hk56 := hk16.kept hg34 (by simp)
    have hk57 := hk56.kept hg44 (by simp; omega)
    refine pw h47 rfl (op_callV (args := #[.agg #[.int .i64 y28.1, .int .i64 y28.2], pt G 0, pt T 0]) (R := fun res xw => res = .bool (selB lg gn y28) ∧ Below w41.heap.size w41 xw) rfl rfl rfl (by kernel_rfl) (by kernel_rfl) (Try.call125 _ _) (selB_any y28 G T mg mt gn lg w41 hk55 hk57 hI51 hI53) (by rintro e x ⟨rfl, hb58⟩; exact ⟨_, rfl, ⟨rfl, hb58⟩⟩)) ?_; clear h47
    rintro _ w49 a48 ⟨rfl, hb58⟩ h48
    have hz59 := hb58.size
    refine pl_nil ?_
    refine co_then ?_
    have hB61 := hb_new hB13 hg34
    have hB62 := hb_at hB61 hg44 (by omega)
    have hB63 := hb_call hB62 hb58
    have hk64 := hk14.kept hg34 (by simp)
    have hk65 := hk64.kept hg44 (by simp; omega)
    have hk66 := hk65.below hb58
    have hk67 := hf9.kept hg34 (by simp)
    have hk68 := hk67.kept hg44 (by simp; omega)
    have hk69 := hk68.below hb58
    have hr70 := row_kept_new hf10 hg34
    have hr71 := row_kept_at hr70 hg44 (ha38)
    have hr72 := row_kept_new hr71 (below_grown hb58)
    cases hc60 : (selB lg gn y28)
    ·
     rw [hc60] at h48
     refine co_false h48 rfl ?_
     refine wp_skip ?_
     refine co_blockN ?_
     refine co_then ?_
     refine co_reg ?_
     refine pk (v := .int .i64 ((i + 1 : Nat) : Int)) h48 rfl (rn_arith' rfl rfl rfl rfl rfl rfl (IntWalk.i64_in _ (by omega)) (by omega)) fun a73 h73 => ?_; clear h48
     refine pk0 (v := .int .i64 ((i + 1 : Nat) : Int)) h73 rfl fun a74 h74 => ?_; clear h73
     refine pl_nil ?_
     refine co_then ?_
     refine ⟨(l.length - (i + 1)), by omega, ?_⟩
     have hI75 := hI51.kept (below_grown hb58) (by simp)
     have hI76 := hI53.kept (below_grown hb58) (by simp)
     have hk77 := hk55.below hb58
     have hk78 := hk57.below hb58
     exact ⟨i + 1, u1, h74.sub ⟨rfl, rfl, rfl, rfl, rfl, rfl, trivial⟩, rfl, by omega, hk69, (row_eq hr72 (by first | exact (List.append_nil _).symm | exact app_yes (by assumption) (by assumption) | exact app_no (by assumption) (by assumption))), hI75, hI76, hB63, hk66, hk77, hk78⟩
    ·
     rw [hc60] at h48
     refine co_true h48 rfl ?_
     refine co_reg ?_
     refine pk (v := u1) h48 rfl (rn_load1 rfl rfl Try.isAgg89 (hk69.cell rfl)) fun a79 h79 => ?_; clear h48
     have hk80 := hk42'.below hb58
     refine pk (v := .agg #[.int .i64 y28.1, .int .i64 y28.2]) h79 rfl (rn_loadN rfl rfl Try.underlying114 rfl (by kernel_rfl) hk80.all) fun a81 h81 => ?_; clear h79
     refine pw h81 rfl (op_new (v := fun N => .slice (some ⟨N, 0, none⟩) 1 1) (T := 114) (cs := #[.int .i64 y28.1, .int .i64 y28.2]) (by kernel_rfl) (by kernel_rfl) (by kernel_rfl)) ?_; clear h81
     rintro _ w83 a82 ⟨N84, rfl, hN87, hz88, hk86, hg85⟩ h82
     have ha89 := row_fresh hr72 hN87
     have hz90 := hg85.size
     try dsimp only at h82
     have hr97 := row_kept_new hr72 hg85
     refine pw h82 rfl (op_append rfl w0.heap.size 114 (z := .agg #[.int .i64 0, .int .i64 0]) (size := 2) (bytes := 16) Try.underlying89 (by kernel_rfl) rfl rfl rfl hr97 rfl hk86 rfl (by kernel_rfl) (by first | omega | (simp only [List.length_nil, List.length_append, List.length_cons, List.length_take, List.length_drop]; omega)) (by first | omega | (simp only [List.length_nil, List.length_append, List.length_cons, List.length_take, List.length_drop]; omega)) (by omega)) ?_; clear h82
     rintro v93 w92 a91 ⟨hr94, hg95⟩ h91
     have hr94' : w92.ownsRow w0.heap.size 114 2 v93 ((acc ++ (l.take i).filter (selB lg gn) ++ [(y28.1, y28.2)]).length) ((acc ++ (l.take i).filter (selB lg gn) ++ [(y28.1, y28.2)]).flatMap memE) := row_push (y := (y28.1, y28.2)) hr94 rfl rfl; clear hr94
     have hz98 := hg95.size
     have hk104 := hk69.kept hg85 (by simp)
     have hk105 := hk104.kept hg95 (own_neT hr97 hk104 (by decide))
     refine pwD h91 rfl (op_store1 rfl rfl rfl (row_one hr94') Try.sizeOf89 hk105 rfl) ?_; clear h91
     rintro _ w100 a99 ⟨hk101, hz102, hg103⟩ h99
     have hk101' : Blk w100 L 89 #[v93] := hk101; clear hk101
     have hz106 := hg103.size
     refine pl_nil ?_
     refine co_blockN ?_
     refine co_then ?_
     refine co_reg ?_
     refine pk (v := .int .i64 ((i + 1 : Nat) : Int)) h99 rfl (rn_arith' rfl rfl rfl rfl rfl rfl (IntWalk.i64_in _ (by omega)) (by omega)) fun a107 h107 => ?_; clear h99
     refine pk0 (v := .int .i64 ((i + 1 : Nat) : Int)) h107 rfl fun a108 h108 => ?_; clear h107
     refine pl_nil ?_
     refine co_then ?_
     refine ⟨(l.length - (i + 1)), by omega, ?_⟩
     have hr109 := row_kept_at hr94' hg103 (own_neT hr94' hk105 (by decide))
     have hI110 := hI51.kept (below_grown hb58) (by simp)
     have hI111 := hI110.kept hg85 (by simp)
     have hI112 := hI111.kept hg95 (hI111.row hr97)
     have hI113 := hI112.kept hg103 (by simp; omega)
     have hI114 := hI53.kept (below_grown hb58) (by simp)
     have hI115 := hI114.kept hg85 (by simp)
     have hI116 := hI115.kept hg95 (hI115.row hr97)
     have hI117 := hI116.kept hg103 (by simp; omega)
     have hB118 := hb_new hB63 hg85
     have hB119 := hb_row hB118 hr97 (by omega) hg95
     have hB120 := hb_at hB119 hg103 (by omega)
     have hk121 := hk66.kept hg85 (by simp)
     have hk122 := hk121.kept hg95 (own_neT hr97 hk121 (by decide))
     have hk123 := hk122.kept hg103 (by simp; omega)
     have hk124 := hk55.below hb58
     have hk125 := hk124.kept hg85 (by simp)
     have hk126 := hk125.kept hg95 (own_neT hr97 hk125 (by decide))
     have hk127 := hk126.kept hg103 (by simp; omega)
     have hk128 := hk57.below hb58
     have hk129 := hk128.kept hg85 (by simp)
     have hk130 := hk129.kept hg95 (own_neT hr97 hk129 (by decide))
     have hk131 := hk130.kept hg103 (by simp; omega)
     exact ⟨i + 1, v93, h108.sub ⟨rfl, rfl, rfl, rfl, rfl, rfl, trivial⟩, rfl, by omega, hk101', (row_eq hr109 (by first | exact (List.append_nil _).symm | exact app_yes (by assumption) (by assumption) | exact app_no (by assumption) (by assumption))), hI113, hI117, hB120, hk123, hk127, hk131⟩
set_option maxRecDepth 100000 in
theorem addJ_any (w0 : World) (v : Value) (l : List MemT) (u : Value) (acc : List MemT) (gn : List Int) (lg : List Int) (C : Nat) (mt : Nat) (mg : Nat) (T : Nat) (G : Nat) (L : Nat) (ep : Int) (mv : Value) (fl : Int) (w : World) (hs : SliceOf memE 2 w0 v l) (hmk : ∀ z ∈ l, memOk z) (hbw : Below w0.heap.size w0 w) (hL : Blk w L 89 #[u]) (hC : Blk w C 91 #[.int .i64 ep, mv, .int .u64 fl]) (hG : Blk w G 180 #[.map (some mg)]) (hT : Blk w T 180 #[.map (some mt)]) (hmg : MapG intK intK 0 w mg (cntL gn)) (hmt : MapG intK intK 0 w mt (cntL lg)) (hord : w0.heap.size ≤ C ∧ C < mt ∧ mt < mg ∧ mg < T ∧ T < G ∧ G < L) (hlen : acc.length ≤ 4 ∧ l.length ≤ 1000) (hr : w.ownsRow w0.heap.size 114 2 u acc.length (acc.flatMap memE)) :
    Calls Try.prog 123 #[v, .func (.func 126) #[] #[pt L 0], pt L 0] w fun e w' => ∃ (u' : Value), e = .returned (.tuple #[]) ∧ Blk w' L 89 #[u'] ∧ w'.ownsRow w0.heap.size 114 2 u' (joinL acc l).length ((joinL acc l).flatMap memE) ∧ Blk w' C 91 #[.int .i64 ep, mv, .int .u64 fl] ∧ Blk w' G 180 #[.map (some mg)] ∧ Blk w' T 180 #[.map (some mt)] ∧ MapG intK intK 0 w' mg (cntL gn) ∧ MapG intK intK 0 w' mt (cntL lg) ∧ Below w0.heap.size w0 w' := by
 have hB0 := hbw
 have hz0 := hbw.size
 have hl_hs := sl_len hs
 have hl_hL := hL.lt
 have hl_hC := hC.lt
 have hl_hG := hG.lt
 have hl_hT := hT.lt
 have hlmg := hmg.lt
 have hlmt := hmt.lt
 have hl_acc := sl_len (row_sl hr memE_len)
 have hlr := hr.1
 refine co_enter (n := 21) Try.func123 rfl rfl rfl [(0, v), (1, .func (.func 126) #[] #[pt L 0]), (2, pt L 0)] rfl (fun a h0 => ?_)
 refine co_seq ?_
 refine co_reg ?_
 refine pk0 (v := v) h0 rfl fun a1 h1 => ?_; clear h0
 refine pk (v := .int .i64 ((l.length : Nat) : Int)) h1 rfl (rn_len rfl rfl Try.underlying89 (hs.below hB0)) fun a2 h2 => ?_; clear h1
 refine pk0 (v := .int .i64 0) h2 rfl fun a3 h3 => ?_; clear h2
 refine pl_nil ?_
 refine co_then ?_
 refine wp_block ?_
 have h4 : Slots 21 [(0, v), (1, .func (.func 126) #[] #[pt L 0]), (2, pt L 0), (7, v), (8, .int .i64 ((l.length : Nat) : Int)), (9, .int .i64 0)] _ := h3.sub ⟨rfl, rfl, rfl, rfl, rfl, rfl, trivial⟩; clear h3
 refine co_loop (fun mm a x => ∃ (i : Nat) (u1 : Value), Slots 21 [(0, v), (1, .func (.func 126) #[] #[pt L 0]), (2, pt L 0), (7, v), (8, .int .i64 ((l.length : Nat) : Int)), (9, .int .i64 ((i : Nat) : Int))] a ∧ mm = l.length - i ∧ (i ≤ l.length) ∧ Blk x L 89 #[u1] ∧ x.ownsRow w0.heap.size 114 2 u1 (joinL acc (l.take i)).length ((joinL acc (l.take i)).flatMap memE) ∧ MapG intK intK 0 x mg (cntL gn) ∧ MapG intK intK 0 x mt (cntL lg) ∧ Below w0.heap.size w0 x ∧ Blk x C 91 #[.int .i64 ep, mv, .int .u64 fl] ∧ Blk x G 180 #[.map (some mg)] ∧ Blk x T 180 #[.map (some mt)]) (l.length - 0) ?_ ?_
 · exact ⟨0, u, h4.sub ⟨rfl, rfl, rfl, rfl, rfl, (slot_eq rfl (congrArg (Value.int .i64) (by first | rfl | omega))), trivial⟩, rfl, by omega, hL, (row_eq hr (by first | exact jn_0 _ _ | exact jn_yes (by assumption) (by assumption) | exact jn_no (by assumption) (by assumption))), hmg, hmt, hB0, hC, hG, hT⟩
 · rintro k5 a6 w7 ⟨i, u1, h6, rfl, hi8, hf9, hf10, hf11, hf12, hB13, hk14, hk15, hk16⟩
   have hz17 := hB13.size
   have hl18 := hk14.lt
   have hl19 := hk15.lt
   have hl20 := hk16.lt
   have hl21 := hf9.lt
   have hl22 := hf11.lt
   have hl23 := hf12.lt
   have hjl := join_le (acc := acc) (by omega) (l.take i)
   refine co_seq ?_
   refine co_reg ?_
   refine pk0 (v := .bool (decide (((i : Nat) : Int) < ((l.length : Nat) : Int)))) h6 rfl fun a24 h24 => ?_; clear h6
   refine pl_nil ?_
   refine co_then ?_
   refine co_seq ?_
   cases hc25 : (decide (((i : Nat) : Int) < ((l.length : Nat) : Int)))
   ·
    rw [hc25] at h24
    have hp26 : ¬ (((i : Nat) : Int) < ((l.length : Nat) : Int)) := of_decide_eq_false hc25
    clear hc25
    refine co_false h24 rfl ?_
    refine wp_exit ?_
    refine co_thenX ?_
    refine co_thenX ?_
    refine co_blockX ?_
    refine co_ret0n h24 rfl ?_
    exact ⟨_, rfl, hf9, (row_eq (row_lows hf10 (by omega)) (jn_end (by omega))), hk14, hk15, hk16, hf11, hf12, hB13⟩
   ·
    rw [hc25] at h24
    have hp27 : ((i : Nat) : Int) < ((l.length : Nat) : Int) := of_decide_eq_true hc25
    clear hc25
    refine co_true h24 rfl ?_
    refine wp_skip ?_
    refine co_then ?_
    refine co_seq ?_
    refine wp_block ?_
    refine co_seq ?_
    refine co_reg ?_
    obtain ⟨y28, hy28⟩ : ∃ z, l[i]? = some z := ⟨_, List.getElem?_eq_getElem (by first | omega | (simp; done) | (simp; omega))⟩
    have oky28 := hmk _ (List.mem_of_getElem? hy28)
    refine pk (v := pt (blkOf v) (offOf v + i * 2)) h24 rfl (rn_index rfl rfl rfl Try.underlying89 Try.sizeOf114 (hs.below hB13) (by omega) (by first | omega | (simp; done) | (simp; omega))) fun a29 h29 => ?_; clear h24
    refine pk (v := .agg #[.int .i64 y28.1, .int .i64 y28.2]) h29 rfl (rn_loadN rfl rfl Try.underlying114 rfl (by kernel_rfl) (sl_at (hs.below hB13) hy28)) fun a30 h30 => ?_; clear h29
    refine pw h30 rfl (op_new (v := fun N => pt N 0) (T := 114) (cs := #[.int .i64 0, .int .i64 0]) (by kernel_rfl) (by kernel_rfl) (by kernel_rfl)) ?_; clear h30
    rintro _ w32 a31 ⟨N33, rfl, hN36, hz37, hk35, hg34⟩ h31
    have ha38 := row_fresh hf10 hN36
    have hz39 := hg34.size
    try dsimp only at h31
    refine pwD h31 rfl (op_storeN rfl rfl rfl (by kernel_rfl) (by kernel_rfl) hk35 rfl) ?_; clear h31
    rintro _ w41 a40 ⟨hk42, hz43, hg44⟩ h40
    have hk42' : Blk w41 N33 114 #[.int .i64 y28.1, .int .i64 y28.2] := hk42; clear hk42
    have hz45 := hg44.size
    refine pl_nil ?_
    refine co_then ?_
    refine co_seq ?_
    refine co_reg ?_
    refine pk0 (v := .func (.func 126) #[] #[pt L 0]) h40 rfl fun a46 h46 => ?_; clear h40
    refine pk (v := .agg #[.int .i64 y28.1, .int .i64 y28.2]) h46 rfl (rn_loadN rfl rfl Try.underlying114 rfl (by kernel_rfl) hk42'.all) fun a47 h47 => ?_; clear h46
    have hr50 := row_kept_new hf10 hg34
    have hr51 := row_kept_at hr50 hg44 (ha38)
    have hk52 := hf9.kept hg34 (by simp)
    have hk53 := hk52.kept hg44 (by simp; omega)
    refine pw h47 rfl (op_callV (args := #[.agg #[.int .i64 y28.1, .int .i64 y28.2], pt L 0]) (R := fun res xw => res = .bool (joinB (joinL acc (l.take i)) y28) ∧ Below w41.heap.size w41 xw) rfl rfl rfl (by kernel_rfl) (by kernel_rfl) (Try.call126 _ _) (joinB_any y28 L u1 (joinL acc (l.take i)) w41 oky28 hk53 (row_sl hr51 memE_len)) (by rintro e x ⟨rfl, hb54⟩; exact ⟨_, rfl, ⟨rfl, hb54⟩⟩)) ?_; clear h47
    rintro _ w49 a48 ⟨rfl, hb54⟩ h48
    have hz55 := hb54.size
    refine pl_nil ?_
    refine co_then ?_
    have hB57 := hb_new hB13 hg34
    have hB58 := hb_at hB57 hg44 (by omega)
    have hB59 := hb_call hB58 hb54
    have hk60 := hk14.kept hg34 (by simp)
    have hk61 := hk60.kept hg44 (by simp; omega)
    have hk62 := hk61.below hb54
    have hk63 := hk15.kept hg34 (by simp)
    have hk64 := hk63.kept hg44 (by simp; omega)
    have hk65 := hk64.below hb54
    have hk66 := hk16.kept hg34 (by simp)
    have hk67 := hk66.kept hg44 (by simp; omega)
    have hk68 := hk67.below hb54
    have hI69 := hf11.kept hg34 (by simp)
    have hI70 := hI69.kept hg44 (by simp; omega)
    have hI71 := hI70.kept (below_grown hb54) (by simp)
    have hI72 := hf12.kept hg34 (by simp)
    have hI73 := hI72.kept hg44 (by simp; omega)
    have hI74 := hI73.kept (below_grown hb54) (by simp)
    cases hc56 : (joinB (joinL acc (l.take i)) y28)
    ·
     rw [hc56] at h48
     refine co_false h48 rfl ?_
     refine wp_skip ?_
     refine co_blockN ?_
     refine co_then ?_
     refine co_reg ?_
     refine pk (v := .int .i64 ((i + 1 : Nat) : Int)) h48 rfl (rn_arith' rfl rfl rfl rfl rfl rfl (IntWalk.i64_in _ (by omega)) (by omega)) fun a75 h75 => ?_; clear h48
     refine pk0 (v := .int .i64 ((i + 1 : Nat) : Int)) h75 rfl fun a76 h76 => ?_; clear h75
     refine pl_nil ?_
     refine co_then ?_
     refine ⟨(l.length - (i + 1)), by omega, ?_⟩
     have hk77 := hk53.below hb54
     have hr78 := row_kept_new hr51 (below_grown hb54)
     exact ⟨i + 1, u1, h76.sub ⟨rfl, rfl, rfl, rfl, rfl, rfl, trivial⟩, rfl, by omega, hk77, (row_eq hr78 (by first | exact jn_0 _ _ | exact jn_yes (by assumption) (by assumption) | exact jn_no (by assumption) (by assumption))), hI71, hI74, hB59, hk62, hk65, hk68⟩
    ·
     rw [hc56] at h48
     refine co_true h48 rfl ?_
     refine co_reg ?_
     have hk79 := hk53.below hb54
     refine pk (v := u1) h48 rfl (rn_load1 rfl rfl Try.isAgg89 (hk79.cell rfl)) fun a80 h80 => ?_; clear h48
     have hk81 := hk42'.below hb54
     refine pk (v := .agg #[.int .i64 y28.1, .int .i64 y28.2]) h80 rfl (rn_loadN rfl rfl Try.underlying114 rfl (by kernel_rfl) hk81.all) fun a82 h82 => ?_; clear h80
     refine pw h82 rfl (op_new (v := fun N => .slice (some ⟨N, 0, none⟩) 1 1) (T := 114) (cs := #[.int .i64 y28.1, .int .i64 y28.2]) (by kernel_rfl) (by kernel_rfl) (by kernel_rfl)) ?_; clear h82
     rintro _ w84 a83 ⟨N85, rfl, hN88, hz89, hk87, hg86⟩ h83
     have hr91 := row_kept_new hr51 (below_grown hb54)
     have ha90 := row_fresh hr91 hN88
     have hz92 := hg86.size
     try dsimp only at h83
     have hr99 := row_kept_new hr91 hg86
     refine pw h83 rfl (op_append rfl w0.heap.size 114 (z := .agg #[.int .i64 0, .int .i64 0]) (size := 2) (bytes := 16) Try.underlying89 (by kernel_rfl) rfl rfl rfl hr99 rfl hk87 rfl (by kernel_rfl) (by first | omega | (simp only [List.length_nil, List.length_append, List.length_cons, List.length_take, List.length_drop]; omega)) (by first | omega | (simp only [List.length_nil, List.length_append, List.length_cons, List.length_take, List.length_drop]; omega)) (by omega)) ?_; clear h83
     rintro v95 w94 a93 ⟨hr96, hg97⟩ h93
     have hr96' : w94.ownsRow w0.heap.size 114 2 v95 ((joinL acc (l.take i) ++ [(y28.1, y28.2)]).length) ((joinL acc (l.take i) ++ [(y28.1, y28.2)]).flatMap memE) := row_push (y := (y28.1, y28.2)) hr96 rfl rfl; clear hr96
     have hz100 := hg97.size
     have hk106 := hk79.kept hg86 (by simp)
     have hk107 := hk106.kept hg97 (own_neT hr99 hk106 (by decide))
     refine pwD h93 rfl (op_store1 rfl rfl rfl (row_one hr96') Try.sizeOf89 hk107 rfl) ?_; clear h93
     rintro _ w102 a101 ⟨hk103, hz104, hg105⟩ h101
     have hk103' : Blk w102 L 89 #[v95] := hk103; clear hk103
     have hz108 := hg105.size
     refine pl_nil ?_
     refine co_blockN ?_
     refine co_then ?_
     refine co_reg ?_
     refine pk (v := .int .i64 ((i + 1 : Nat) : Int)) h101 rfl (rn_arith' rfl rfl rfl rfl rfl rfl (IntWalk.i64_in _ (by omega)) (by omega)) fun a109 h109 => ?_; clear h101
     refine pk0 (v := .int .i64 ((i + 1 : Nat) : Int)) h109 rfl fun a110 h110 => ?_; clear h109
     refine pl_nil ?_
     refine co_then ?_
     refine ⟨(l.length - (i + 1)), by omega, ?_⟩
     have hr111 := row_kept_at hr96' hg105 (own_neT hr96' hk107 (by decide))
     have hI112 := hI71.kept hg86 (by simp)
     have hI113 := hI112.kept hg97 (hI112.row hr99)
     have hI114 := hI113.kept hg105 (by simp; omega)
     have hI115 := hI74.kept hg86 (by simp)
     have hI116 := hI115.kept hg97 (hI115.row hr99)
     have hI117 := hI116.kept hg105 (by simp; omega)
     have hB118 := hb_new hB59 hg86
     have hB119 := hb_row hB118 hr99 (by omega) hg97
     have hB120 := hb_at hB119 hg105 (by omega)
     have hk121 := hk62.kept hg86 (by simp)
     have hk122 := hk121.kept hg97 (own_neT hr99 hk121 (by decide))
     have hk123 := hk122.kept hg105 (by simp; omega)
     have hk124 := hk65.kept hg86 (by simp)
     have hk125 := hk124.kept hg97 (own_neT hr99 hk124 (by decide))
     have hk126 := hk125.kept hg105 (by simp; omega)
     have hk127 := hk68.kept hg86 (by simp)
     have hk128 := hk127.kept hg97 (own_neT hr99 hk127 (by decide))
     have hk129 := hk128.kept hg105 (by simp; omega)
     exact ⟨i + 1, v95, h110.sub ⟨rfl, rfl, rfl, rfl, rfl, rfl, trivial⟩, rfl, by omega, hk103', (row_eq hr111 (by first | exact jn_0 _ _ | exact jn_yes (by assumption) (by assumption) | exact jn_no (by assumption) (by assumption))), hI114, hI117, hB120, hk123, hk126, hk129⟩
set_option maxRecDepth 100000 in
theorem chain_any (ep : Int) (mv : Value) (ms : List MemT) (fl : Int) (lv : Value) (lg : List Int) (gv : Value) (gn : List Int) (jv : Value) (js : List MemT) (w : World) (hs : SliceOf memE 2 w mv ms) (hmk : ∀ z ∈ ms, memOk z) (hlg : SliceOf (intE .i64) 1 w lv lg) (hgn : SliceOf (intE .i64) 1 w gv gn) (hjs : SliceOf memE 2 w jv js) (hjk : ∀ z ∈ js, memOk z) (hlen : ms.length ≤ 4 ∧ js.length ≤ 1000) :
    Calls Try.prog 104 #[.agg #[.int .i64 ep, mv, .int .u64 fl], lv, gv, jv] w fun e w' => ∃ (u : Value), e = .returned (.tuple #[u, .int .i64 (((keepL ms lg gn).length : Nat) : Int)]) ∧ w'.ownsRow w.heap.size 114 2 u (planL ms lg gn js).length ((planL ms lg gn js).flatMap memE) ∧ Below w.heap.size w w' := by
 have hB0 := Below.refl w.heap.size w
 have hl_hs := sl_len hs
 have hl_hlg := sl_len hlg
 have hl_hgn := sl_len hgn
 have hl_hjs := sl_len hjs
 refine co_enter (n := 38) Try.func104 rfl rfl rfl [(0, .agg #[.int .i64 ep, mv, .int .u64 fl]), (1, lv), (2, gv), (3, jv)] rfl (fun a h0 => ?_)
 refine co_seq ?_
 refine co_reg ?_
 refine pw h0 rfl (op_new (v := fun N => pt N 0) (T := 91) (cs := #[.int .i64 ep, mv, .int .u64 fl]) (by kernel_rfl) (by kernel_rfl) (by kernel_rfl)) ?_; clear h0
 rintro _ w2 a1 ⟨N3, rfl, hN6, hz7, hk5, hg4⟩ h1
 have hz8 := hg4.size
 try dsimp only at h1
 refine pk0 (v := .slice none 0 0) h1 rfl fun a9 h9 => ?_; clear h1
 refine pk0 (v := .int .i64 0) h9 rfl fun a10 h10 => ?_; clear h9
 refine pl_nil ?_
 refine co_then ?_
 refine co_seq ?_
 refine co_reg ?_
 refine pk0 (v := lv) h10 rfl fun a11 h11 => ?_; clear h10
 have hB14 := hb_new hB0 hg4
 refine pw h11 rfl (op_call (args := #[lv]) (R := fun res xw => ∃ N : Nat, res = .map (some N) ∧ MapG intK intK 0 xw N (cntL lg) ∧ w2.heap.size ≤ N ∧ Below w2.heap.size w2 xw) rfl rfl rfl (by kernel_rfl) (by kernel_rfl) (Try.call122 _ _) (set_any lv lg w2 (hlg.below hB14)) (by rintro e x ⟨N, rfl, hq16, hq17, hb18⟩; exact ⟨_, rfl, ⟨N, rfl, hq16, hq17, hb18⟩⟩)) ?_; clear h11
 rintro _ w13 a12 ⟨N15, rfl, hq16, hq17, hb18⟩ h12
 have hz19 := hb18.size
 have hl20 := hq16.lt
 refine pk0 (v := gv) h12 rfl fun a21 h21 => ?_; clear h12
 have hB24 := hb_call hB14 hb18
 refine pw h21 rfl (op_call (args := #[gv]) (R := fun res xw => ∃ N : Nat, res = .map (some N) ∧ MapG intK intK 0 xw N (cntL gn) ∧ w13.heap.size ≤ N ∧ Below w13.heap.size w13 xw) rfl rfl rfl (by kernel_rfl) (by kernel_rfl) (Try.call122 _ _) (set_any gv gn w13 (hgn.below hB24)) (by rintro e x ⟨N, rfl, hq26, hq27, hb28⟩; exact ⟨_, rfl, ⟨N, rfl, hq26, hq27, hb28⟩⟩)) ?_; clear h21
 rintro _ w23 a22 ⟨N25, rfl, hq26, hq27, hb28⟩ h22
 have hz29 := hb28.size
 have hl30 := hq26.lt
 refine pw h22 rfl (op_new (v := fun N => pt N 0) (T := 180) (cs := #[.map none]) (by kernel_rfl) (by kernel_rfl) (by kernel_rfl)) ?_; clear h22
 rintro _ w32 a31 ⟨N33, rfl, hN36, hz37, hk35, hg34⟩ h31
 have hz38 := hg34.size
 try dsimp only at h31
 refine pw h31 rfl (op_new (v := fun N => pt N 0) (T := 180) (cs := #[.map none]) (by kernel_rfl) (by kernel_rfl) (by kernel_rfl)) ?_; clear h31
 rintro _ w40 a39 ⟨N41, rfl, hN44, hz45, hk43, hg42⟩ h39
 have hz46 := hg42.size
 try dsimp only at h39
 have hk52 := hk35.kept hg42 (by simp)
 refine pwD h39 rfl (op_store1 rfl rfl rfl rfl Try.sizeOf180 hk52 rfl) ?_; clear h39
 rintro _ w48 a47 ⟨hk49, hz50, hg51⟩ h47
 have hk49' : Blk w48 N33 180 #[.map (some N15)] := hk49; clear hk49
 have hz53 := hg51.size
 have hk59 := hk43.kept hg51 (by simp; omega)
 refine pwD h47 rfl (op_store1 rfl rfl rfl rfl Try.sizeOf180 hk59 rfl) ?_; clear h47
 rintro _ w55 a54 ⟨hk56, hz57, hg58⟩ h54
 have hk56' : Blk w55 N41 180 #[.map (some N25)] := hk56; clear hk56
 have hz60 := hg58.size
 refine pl_nil ?_
 refine co_then ?_
 refine co_seq ?_
 refine co_reg ?_
 refine pw h54 rfl (op_new (v := fun N => pt N 0) (T := 89) (cs := #[.slice none 0 0]) (by kernel_rfl) (by kernel_rfl) (by kernel_rfl)) ?_; clear h54
 rintro _ w62 a61 ⟨N63, rfl, hN66, hz67, hk65, hg64⟩ h61
 have hz68 := hg64.size
 try dsimp only at h61
 refine pl_nil ?_
 refine co_then ?_
 refine co_seq ?_
 refine co_reg ?_
 refine pk0 (v := .func (.func 123) #[] #[pt N63 0]) h61 rfl fun a69 h69 => ?_; clear h61
 refine pk0 (v := .func (.func 123) #[] #[pt N63 0]) h69 rfl fun a70 h70 => ?_; clear h69
 refine pl_nil ?_
 refine co_then ?_
 refine co_seq ?_
 refine co_reg ?_
 refine pk0 (v := .func (.func 123) #[] #[pt N63 0]) h70 rfl fun a71 h71 => ?_; clear h70
 refine pk0 (v := pt N3 1) h71 rfl fun a72 h72 => ?_; clear h71
 have hk73 := hk5.below hb18
 have hk74 := hk73.below hb28
 have hk75 := hk74.kept hg34 (by simp)
 have hk76 := hk75.kept hg42 (by simp)
 have hk77 := hk76.kept hg51 (by simp; omega)
 have hk78 := hk77.kept hg58 (by simp; omega)
 have hk79 := hk78.kept hg64 (by simp)
 refine pk (v := mv) h72 rfl (rn_load1 rfl rfl Try.isAgg89 (hk79.cell rfl)) fun a80 h80 => ?_; clear h72
 refine pk0 (v := .func (.func 124) #[] #[pt N41 0, pt N33 0]) h80 rfl fun a81 h81 => ?_; clear h80
 have hB93 := hb_call hB24 hb28
 have hB94 := hb_new hB93 hg34
 have hB95 := hb_new hB94 hg42
 have hB96 := hb_at hB95 hg51 (by omega)
 have hB97 := hb_at hB96 hg58 (by omega)
 have hB98 := hb_new hB97 hg64
 have hI99 := hq16.kept (below_grown hb28) (by simp)
 have hI100 := hI99.kept hg34 (by simp)
 have hI101 := hI100.kept hg42 (by simp)
 have hI102 := hI101.kept hg51 (by simp; omega)
 have hI103 := hI102.kept hg58 (by simp; omega)
 have hI104 := hI103.kept hg64 (by simp)
 have hI105 := hq26.kept hg34 (by simp)
 have hI106 := hI105.kept hg42 (by simp)
 have hI107 := hI106.kept hg51 (by simp; omega)
 have hI108 := hI107.kept hg58 (by simp; omega)
 have hI109 := hI108.kept hg64 (by simp)
 have hk110 := hk49'.kept hg58 (by simp; omega)
 have hk111 := hk110.kept hg64 (by simp)
 have hk112 := hk56'.kept hg64 (by simp)
 refine pw h81 rfl (op_callV (args := #[mv, .func (.func 124) #[] #[pt N41 0, pt N33 0], pt N63 0]) (R := fun res xw => res = .tuple #[] ∧ ∃ u' : Value, Blk xw N63 89 #[u'] ∧ xw.ownsRow w.heap.size 114 2 u' (([] : List MemT) ++ ms.filter (selA lg gn)).length ((([] : List MemT) ++ ms.filter (selA lg gn)).flatMap memE) ∧ Blk xw N3 91 #[.int .i64 ep, mv, .int .u64 fl] ∧ Blk xw N41 180 #[.map (some N25)] ∧ Blk xw N33 180 #[.map (some N15)] ∧ MapG intK intK 0 xw N25 (cntL gn) ∧ MapG intK intK 0 xw N15 (cntL lg) ∧ Below w.heap.size w xw) rfl rfl rfl (by kernel_rfl) (by kernel_rfl) (Try.call123 _ _) (addA_any w mv ms (.slice none 0 0) ([]) gn lg N3 N15 N25 N33 N41 N63 ep mv fl w62 hs hmk hB98 hk65 hk79 hk112 hk111 hI109 hI104 (by omega) ⟨by simp, by omega⟩ (row_nilL _ _ _ _ _)) (by rintro e x ⟨u', rfl, k1, k2, k3, k4, k5, k6, k7, k8⟩; exact ⟨_, rfl, rfl, u', k1, k2, k3, k4, k5, k6, k7, k8⟩)) ?_; clear h81
 rintro _ w83 a82 ⟨rfl, u84, hq85, hq86, hq87, hq88, hq89, hq90, hq91, hb92⟩ h82
 have hz113 := hb92.size
 have hl114 := hq85.lt
 have hl115 := hq87.lt
 have hl116 := hq88.lt
 have hl117 := hq89.lt
 have hl118 := hq90.lt
 have hl119 := hq91.lt
 have hr120 : w83.ownsRow w.heap.size 114 2 u84 (keepL ms lg gn).length ((keepL ms lg gn).flatMap memE) := hq86
 refine pl_nil ?_
 refine co_then ?_
 refine co_seq ?_
 refine co_reg ?_
 refine pk (v := u84) h82 rfl (rn_load1 rfl rfl Try.isAgg89 (hq85.cell rfl)) fun a121 h121 => ?_; clear h82
 refine pk (v := .int .i64 (((keepL ms lg gn).length : Nat) : Int)) h121 rfl (rn_lenOwn rfl rfl Try.underlying89 hr120) fun a122 h122 => ?_; clear h121
 refine pk0 (v := .int .i64 (((keepL ms lg gn).length : Nat) : Int)) h122 rfl fun a123 h123 => ?_; clear h122
 refine pl_nil ?_
 refine co_then ?_
 refine co_seq ?_
 refine co_reg ?_
 refine pk0 (v := .func (.func 123) #[] #[pt N63 0]) h123 rfl fun a124 h124 => ?_; clear h123
 refine pk0 (v := pt N3 1) h124 rfl fun a125 h125 => ?_; clear h124
 refine pk (v := mv) h125 rfl (rn_load1 rfl rfl Try.isAgg89 (hq87.cell rfl)) fun a126 h126 => ?_; clear h125
 refine pk0 (v := .func (.func 125) #[] #[pt N41 0, pt N33 0]) h126 rfl fun a127 h127 => ?_; clear h126
 refine pw h127 rfl (op_callV (args := #[mv, .func (.func 125) #[] #[pt N41 0, pt N33 0], pt N63 0]) (R := fun res xw => res = .tuple #[] ∧ ∃ u' : Value, Blk xw N63 89 #[u'] ∧ xw.ownsRow w.heap.size 114 2 u' (keepL ms lg gn ++ ms.filter (selB lg gn)).length ((keepL ms lg gn ++ ms.filter (selB lg gn)).flatMap memE) ∧ Blk xw N3 91 #[.int .i64 ep, mv, .int .u64 fl] ∧ Blk xw N41 180 #[.map (some N25)] ∧ Blk xw N33 180 #[.map (some N15)] ∧ MapG intK intK 0 xw N25 (cntL gn) ∧ MapG intK intK 0 xw N15 (cntL lg) ∧ Below w.heap.size w xw) rfl rfl rfl (by kernel_rfl) (by kernel_rfl) (Try.call123 _ _) (addB_any w mv ms u84 (keepL ms lg gn) gn lg N3 N15 N25 N33 N41 N63 ep mv fl w83 hs hmk hb92 hq85 hq87 hq88 hq89 hq90 hq91 (by omega) ⟨by first | exact keep_acc (by omega) | omega, by omega⟩ hr120) (by rintro e x ⟨u', rfl, k1, k2, k3, k4, k5, k6, k7, k8⟩; exact ⟨_, rfl, rfl, u', k1, k2, k3, k4, k5, k6, k7, k8⟩)) ?_; clear h127
 rintro _ w129 a128 ⟨rfl, u130, hq131, hq132, hq133, hq134, hq135, hq136, hq137, hb138⟩ h128
 have hz139 := hb138.size
 have hl140 := hq131.lt
 have hl141 := hq133.lt
 have hl142 := hq134.lt
 have hl143 := hq135.lt
 have hl144 := hq136.lt
 have hl145 := hq137.lt
 have hr146 : w129.ownsRow w.heap.size 114 2 u130 (stayL ms lg gn).length ((stayL ms lg gn).flatMap memE) := hq132
 refine pl_nil ?_
 refine co_then ?_
 refine co_seq ?_
 refine co_reg ?_
 refine pk0 (v := .func (.func 123) #[] #[pt N63 0]) h128 rfl fun a147 h147 => ?_; clear h128
 refine pk0 (v := jv) h147 rfl fun a148 h148 => ?_; clear h147
 refine pk0 (v := .func (.func 126) #[] #[pt N63 0]) h148 rfl fun a149 h149 => ?_; clear h148
 refine pw h149 rfl (op_callV (args := #[jv, .func (.func 126) #[] #[pt N63 0], pt N63 0]) (R := fun res xw => res = .tuple #[] ∧ ∃ u' : Value, Blk xw N63 89 #[u'] ∧ xw.ownsRow w.heap.size 114 2 u' (joinL (stayL ms lg gn) js).length ((joinL (stayL ms lg gn) js).flatMap memE) ∧ Blk xw N3 91 #[.int .i64 ep, mv, .int .u64 fl] ∧ Blk xw N41 180 #[.map (some N25)] ∧ Blk xw N33 180 #[.map (some N15)] ∧ MapG intK intK 0 xw N25 (cntL gn) ∧ MapG intK intK 0 xw N15 (cntL lg) ∧ Below w.heap.size w xw) rfl rfl rfl (by kernel_rfl) (by kernel_rfl) (Try.call123 _ _) (addJ_any w jv js u130 (stayL ms lg gn) gn lg N3 N15 N25 N33 N41 N63 ep mv fl w129 hjs hjk hb138 hq131 hq133 hq134 hq135 hq136 hq137 (by omega) ⟨by first | exact stay_acc (by omega) | omega, by omega⟩ hr146) (by rintro e x ⟨u', rfl, k1, k2, k3, k4, k5, k6, k7, k8⟩; exact ⟨_, rfl, rfl, u', k1, k2, k3, k4, k5, k6, k7, k8⟩)) ?_; clear h149
 rintro _ w151 a150 ⟨rfl, u152, hq153, hq154, hq155, hq156, hq157, hq158, hq159, hb160⟩ h150
 have hz161 := hb160.size
 have hl162 := hq153.lt
 have hl163 := hq155.lt
 have hl164 := hq156.lt
 have hl165 := hq157.lt
 have hl166 := hq158.lt
 have hl167 := hq159.lt
 have hr168 : w151.ownsRow w.heap.size 114 2 u152 (planL ms lg gn js).length ((planL ms lg gn js).flatMap memE) := hq154
 refine pl_nil ?_
 refine co_then ?_
 refine co_seq ?_
 refine co_reg ?_
 refine pk (v := u152) h150 rfl (rn_load1 rfl rfl Try.isAgg89 (hq153.cell rfl)) fun a169 h169 => ?_; clear h150
 refine pk0 (v := .int .i64 (((keepL ms lg gn).length : Nat) : Int)) h169 rfl fun a170 h170 => ?_; clear h169
 refine pk0 (v := u152) h170 rfl fun a171 h171 => ?_; clear h170
 refine pk0 (v := .int .i64 (((keepL ms lg gn).length : Nat) : Int)) h171 rfl fun a172 h172 => ?_; clear h171
 refine pl_nil ?_
 refine co_then ?_
 refine wp_ret ?_
 refine co_ret2 h172 rfl rfl rfl ?_
 exact ⟨_, rfl, (row_lows hr168 (by omega)), hb160⟩
end Go.Proofs.Ytcnahhobppnbbaa
