/- Put together: MsaGMa, MsaHMa, MstDMa, MsaIMa. Conditions: as each says. -/
import Derived.Test.YtnjbnndpbegkdaaMb5
import Derived.LoopN
import Derived.Test.YtnjbnndpbegkdaaMb4
import Derived.Test.YtnjbnndpbegkdaaMb3
/- Package mstate: Notes. Conditions: at most 20 members, 100 trusted, 3 pins. -/
namespace Go.Proofs.Ytnjbnndpbegkdaa
open Go.RowKit Go.PlainAid
set_option linter.unusedVariables false
set_option linter.unusedSimpArgs false


def xCf (ep fl : Int) (ms : List MemT) (lg : List Int) (mv lv : Value) : NoteX := ⟨⟨1, 0, 0, ep, ms, fl, lg, 0, 0, [], 0, 0, 0, 0, 0, 0, 0, 0⟩, mv, lv, .slice none 0 0⟩
def xPn (p : PinT) : NoteX := ⟨nPnM p, .slice none 0 0, .slice none 0 0, .slice none 0 0⟩
def xUn (n : Int) : NoteX := ⟨nUnM n, .slice none 0 0, .slice none 0 0, .slice none 0 0⟩
def xHz (t : Int) : NoteX := ⟨nHzM t, .slice none 0 0, .slice none 0 0, .slice none 0 0⟩
def xSd (x : SdT) : NoteX := ⟨nSdM x, .slice none 0 0, .slice none 0 0, .slice none 0 0⟩
def unX (pn : List PinT) (tp : Int) : List NoteX := if pn.any (fun p => p.1 == tp) = true then [] else [xUn tp]
def sdX (x : SdT) : List NoteX := if x.1 = true then [xSd x] else []
theorem unX_y {pn : List PinT} {tp : Int} (h : pn.any (fun p => p.1 == tp) = true) : unX pn tp = [] := if_pos h
theorem unX_n {pn : List PinT} {tp : Int} (h : pn.any (fun p => p.1 == tp) = false) : unX pn tp = [xUn tp] := if_neg (by rw [h]; simp)
theorem sdX_y {x : SdT} (h : x.1 = true) : sdX x = [xSd x] := if_pos h
theorem sdX_n {x : SdT} (h : x.1 = false) : sdX x = [] := if_neg (by rw [h]; simp)
theorem unX_len (pn : List PinT) (tp : Int) : (unX pn tp).length ≤ 1 := by unfold unX; split <;> simp
theorem preX_len {pre : List NoteX} {l : List PinT} (i : Nat) (h : pre.length ≤ 1) (h2 : l.length ≤ 3) : (pre ++ (l.take i).map xPn).length ≤ 4 := by
  have h9 : (l.take i).length ≤ l.length := List.length_take_le' i l
  rw [List.length_append, List.length_map]; omega
theorem pnX_snoc {pre : List NoteX} {l : List PinT} {i : Nat} {y : PinT} (h : l[i]? = some y) : pre ++ (l.take i).map xPn ++ [xPn y] = pre ++ (l.take (i + 1)).map xPn := by
  rw [List.take_add_one, h, List.map_append, List.append_assoc]; rfl
set_option maxRecDepth 100000 in
set_option maxHeartbeats 3200000 in
theorem msNtsY (b : Nat) (ep : Int) (cv : Value) (fl : Int) (lgv : Value) (hz : Int) (pv : Value) (pn : List PinT) (tp : Int) (x0 : SdT) (x1 : SdT) (x2 : SdT) (ms : List MemT) (lg : List Int) (w : World) (hb : Blk w b 66 #[.bool true, .int .i64 ep, cv, .int .u64 fl, lgv, .int .u64 hz, pv, .int .i64 tp, .bool x0.1, .int .i64 x0.2.1, .int .i64 x0.2.2.1, .int .i64 x0.2.2.2.1, .int .i64 x0.2.2.2.2, .bool x1.1, .int .i64 x1.2.1, .int .i64 x1.2.2.1, .int .i64 x1.2.2.2.1, .int .i64 x1.2.2.2.2, .bool x2.1, .int .i64 x2.2.1, .int .i64 x2.2.2.1, .int .i64 x2.2.2.2.1, .int .i64 x2.2.2.2.2]) (hpn : w.ownsRow 0 40 3 pv pn.length (pn.flatMap pinE)) (hp3 : pn.length ≤ 3) (hcvr : w.ownsRow 0 102 2 cv ms.length (ms.flatMap memE)) (hlgr : w.ownsRow 0 3 1 lgv lg.length (lg.flatMap (intE .i64))) (hln : ms.length ≤ 20 ∧ lg.length ≤ 100) (hep : 0 < ep) :
    Calls Try.prog 9 #[pt b 0] w fun e w' => ∃ (u1 : Value) (u2 : Value) (u : Value), e = .returned (u) ∧ w'.ownsRow w.heap.size 44 18 u ([xCf ep fl ms lg u1 u2] ++ pn.map xPn ++ unX pn tp ++ [xHz hz] ++ sdX x0 ++ sdX x1 ++ sdX x2).length (([xCf ep fl ms lg u1 u2] ++ pn.map xPn ++ unX pn tp ++ [xHz hz] ++ sdX x0 ++ sdX x1 ++ sdX x2).flatMap noteE) ∧ w'.ownsRow w.heap.size 102 2 u1 ms.length (ms.flatMap memE) ∧ w'.ownsRow w.heap.size 3 1 u2 lg.length (lg.flatMap (intE .i64)) ∧ Below w.heap.size w w' := by
 have hlb9 := hb.lt
 have hB0 := Below.refl w.heap.size w
 have hl_hb := hb.lt
 have hu_cv := fun i (hi : Value.ownBlock cv = some i) => (hcvr.lt i hi).2
 have hu_lgv := fun i (hi : Value.ownBlock lgv = some i) => (hlgr.lt i hi).2
 have hu_pv := fun i (hi : Value.ownBlock pv = some i) => (hpn.lt i hi).2
 refine co_enter (n := 79) Try.func9 rfl rfl rfl [(0, pt b 0)] rfl (fun a h0 => ?_)
 refine co_seq ?_
 refine co_reg ?_
 refine pw h0 rfl (op_new (v := fun N => pt N 0) (T := 25) (cs := #[pt b 0]) (by kernel_rfl) (by kernel_rfl) (by kernel_rfl)) ?_; clear h0
 rintro _ w2 a1 ⟨N3, rfl, hN6, hz7, hk5, hg4⟩ h1
 have ha8 := row_fresh hpn hN6
 have ha9 := row_fresh hlgr hN6
 have ha10 := row_fresh hcvr hN6
 have hz11 := hg4.size
 try dsimp only at h1
 refine pk0 (v := .slice none 0 0) h1 rfl fun a12 h12 => ?_; clear h1
 refine pl_nil ?_
 refine co_then ?_
 refine co_seq ?_
 refine co_seq ?_
 refine co_reg ?_
 refine pk (v := pt b 0) h12 rfl (rn_load1 rfl rfl Try.isAgg25 (hk5.cell rfl)) fun a13 h13 => ?_; clear h12
 have hk16 := hb.kept hg4 (by simp)
 refine pw h13 rfl (op_call (args := #[pt b 0]) (R := fun res xw => res = .bool false ∧ Below w2.heap.size w2 xw) rfl rfl rfl (by kernel_rfl) (by kernel_rfl) (Try.call19 _ _) (mszeroT b ep cv fl lgv hz pv tp x0 x1 x2 w2 hk16) (by rintro e x ⟨rfl, hb17⟩; exact ⟨_, rfl, ⟨rfl, hb17⟩⟩)) ?_; clear h13
 rintro _ w15 a14 ⟨rfl, hb17⟩ h14
 have hz18 := hb17.size
 refine pl_nil ?_
 refine co_then ?_
 refine co_false h14 rfl ?_
 refine wp_skip ?_
 refine co_then ?_
 refine co_seq ?_
 refine co_reg ?_
 refine pk0 (v := .slice none 0 0) h14 rfl fun a19 h19 => ?_; clear h14
 refine pl_nil ?_
 refine co_then ?_
 refine co_seq ?_
 refine co_seq ?_
 refine co_reg ?_
 have hk20 := hk5.below hb17
 refine pk (v := pt b 0) h19 rfl (rn_load1 rfl rfl Try.isAgg25 (hk20.cell rfl)) fun a21 h21 => ?_; clear h19
 refine pk0 (v := pt b 0) h21 rfl fun a22 h22 => ?_; clear h21
 refine pk0 (v := pt b 1) h22 rfl fun a23 h23 => ?_; clear h22
 refine pk0 (v := pt b 1) h23 rfl fun a24 h24 => ?_; clear h23
 have hk25 := hk16.below hb17
 refine pk (v := .int .i64 ep) h24 rfl (rn_load1 rfl rfl Try.isAgg3 (hk25.cell rfl)) fun a26 h26 => ?_; clear h24
 refine pk0 (v := .bool (decide (ep > 0))) h26 rfl fun a27 h27 => ?_; clear h26
 refine pl_nil ?_
 refine co_then ?_
 have hc28 : (decide (ep > 0)) = true := decide_eq_true (by omega)
 rw [hc28] at h27; clear hc28
 refine co_true h27 rfl ?_
 refine dr_gen (fun x => Below w.heap.size w x ∧ Blk x N3 25 #[pt b 0]) (by kernel_rfl) (fun w29 hg30 => ?_) (fun w29 hg30 => ?_)
 ·
  have hz31 := hg30.size
  have hB32 := hb_new hB0 hg4
  have hB33 := hb_call hB32 hb17
  have hB34 := hb_new hB33 hg30
  have hk35 := hk20.kept hg30 (by simp)
  exact ⟨hB34, hk35⟩
 have hz36 := hg30.size
 have hB37 := hb_new hB0 hg4
 have hB38 := hb_call hB37 hb17
 have hB39 := hb_new hB38 hg30
 have hk40 := hk20.kept hg30 (by simp)
 refine dk0 0 (v := .slice none 0 0) h27 rfl rfl ⟨hB39, hk40⟩ fun a41 h41 => ?_; clear h27
 refine dk 1 (v := pt b 0) h41 rfl rfl ⟨hB39, hk40⟩ (fun x hx => (rn_load1 rfl rfl Try.isAgg25 (hx.2.cell rfl))) fun a42 h42 => ?_; clear h41
 refine dk 3 (v := pt b 0) h42 rfl rfl ⟨hB39, hk40⟩ (fun x hx => (rn_load1 rfl rfl Try.isAgg25 (hx.2.cell rfl))) fun a43 h43 => ?_; clear h42
 have hr46 := row_kept_new hpn hg4
 have hr47 := row_kept_new hr46 (below_grown hb17)
 have hr48 := row_kept_new hr47 hg30
 have hr49 := row_kept_new hlgr hg4
 have hr50 := row_kept_new hr49 (below_grown hb17)
 have hr51 := row_kept_new hr50 hg30
 have hr52 := row_kept_new hcvr hg4
 have hr53 := row_kept_new hr52 (below_grown hb17)
 have hr54 := row_kept_new hr53 hg30
 have hk55 := hk25.kept hg30 (by simp)
 refine d1 2 h43 rfl rfl (op_call (args := #[pt b 0]) (R := fun res xw => ∃ u : Value, res = .agg #[.int .i64 ep, u, .int .u64 fl] ∧ xw.ownsRow w29.heap.size 102 2 u ms.length (ms.flatMap memE) ∧ Below w29.heap.size w29 xw) rfl rfl rfl (by kernel_rfl) (by kernel_rfl) (Try.call13 _ _) (msConf_any b ep cv fl lgv hz pv tp x0 x1 x2 ms w29 hk55 (row_lows hr54 (Nat.zero_le _)) (by omega)) (by rintro e x ⟨u, rfl, hq57, hb58⟩; exact ⟨_, rfl, ⟨u, rfl, hq57, hb58⟩⟩)) ?_ ?_; clear h43
 ·
  rintro _ w45 ⟨u56, rfl, hq57, hb58⟩
  have hz59 := hb58.size
  have hl60 := sl_len (row_sl hq57 memE_len)
  have hB61 := hb_call hB39 hb58
  have hk62 := hk40.below hb58
  exact ⟨hB61, hk62⟩
 rintro _ w45 a44 ⟨u56, rfl, hq57, hb58⟩ h44
 have hz59 := hb58.size
 have hl60 := sl_len (row_sl hq57 memE_len)
 have hB61 := hb_call hB39 hb58
 have hk62 := hk40.below hb58
 have hr65 := row_kept_new hr51 (below_grown hb58)
 have hk66 := hk55.below hb58
 refine d1 4 h44 rfl rfl (op_call (args := #[pt b 0]) (R := fun res xw => ∃ u : Value, res = u ∧ xw.ownsRow w45.heap.size 3 1 u lg.length (lg.flatMap (intE .i64)) ∧ Below w45.heap.size w45 xw) rfl rfl rfl (by kernel_rfl) (by kernel_rfl) (Try.call16 _ _) (msLegit_any b ep cv fl lgv hz pv tp x0 x1 x2 lg w45 hk66 (row_lows hr65 (Nat.zero_le _)) (by omega)) (by rintro e x ⟨u, rfl, hq68, hb69⟩; exact ⟨_, rfl, ⟨u, rfl, hq68, hb69⟩⟩)) ?_ ?_; clear h44
 ·
  rintro u67 w64 ⟨_, rfl, hq68, hb69⟩
  have hz70 := hb69.size
  have hl71 := sl_len (row_sl hq68 (intE_len .i64))
  have hB72 := hb_call hB61 hb69
  have hk73 := hk62.below hb69
  exact ⟨hB72, hk73⟩
 rintro u67 w64 a63 ⟨_, rfl, hq68, hb69⟩ h63
 have hz70 := hb69.size
 have hl71 := sl_len (row_sl hq68 (intE_len .i64))
 have hB72 := hb_call hB61 hb69
 have hk73 := hk62.below hb69
 refine dk 5 (v := .agg #[.int .i64 1, .int .i64 0, .int .u64 0, .int .i64 ep, u56, .int .u64 fl, u67, .int .i64 0, .int .i64 0, .slice none 0 0, .int .u64 0, .int .i64 0, .int .u64 0, .int .i64 0, .int .i64 0, .int .i64 0, .int .i64 0, .int .i64 0]) h63 rfl rfl ⟨hB72, hk73⟩ (fun x hx => (by obtain ⟨_, _, _, hq⟩ := row_form hq68; subst hq; kernel_rfl)) fun a74 h74 => ?_; clear h63
 refine d1 6 h74 rfl rfl (op_new (v := fun N => .slice (some ⟨N, 0, none⟩) 1 1) (T := 44) (cs := #[.int .i64 1, .int .i64 0, .int .u64 0, .int .i64 ep, u56, .int .u64 fl, u67, .int .i64 0, .int .i64 0, .slice none 0 0, .int .u64 0, .int .i64 0, .int .u64 0, .int .i64 0, .int .i64 0, .int .i64 0, .int .i64 0, .int .i64 0]) (by kernel_rfl) (by kernel_rfl) (by kernel_rfl)) ?_ ?_; clear h74
 ·
  rintro _ w76 ⟨N77, rfl, hN80, hz81, hk79, hg78⟩
  have hr83 := row_kept_new hr48 (below_grown hb58)
  have hr84 := row_kept_new hr83 (below_grown hb69)
  have ha82 := row_fresh hr84 hN80
  have hr86 := row_kept_new hr65 (below_grown hb69)
  have ha85 := row_fresh hr86 hN80
  have hr88 := row_kept_new hr54 (below_grown hb58)
  have hr89 := row_kept_new hr88 (below_grown hb69)
  have ha87 := row_fresh hr89 hN80
  have hr91 := row_kept_new hq57 (below_grown hb69)
  have ha90 := row_fresh hr91 hN80
  have ha92 := row_fresh hq68 hN80
  have hz93 := hg78.size
  have hB94 := hb_new hB72 hg78
  have hk95 := hk73.kept hg78 (by simp)
  exact ⟨hB94, hk95⟩
 rintro _ w76 a75 ⟨N77, rfl, hN80, hz81, hk79, hg78⟩ h75
 have hr83 := row_kept_new hr48 (below_grown hb58)
 have hr84 := row_kept_new hr83 (below_grown hb69)
 have ha82 := row_fresh hr84 hN80
 have hr86 := row_kept_new hr65 (below_grown hb69)
 have ha85 := row_fresh hr86 hN80
 have hr88 := row_kept_new hr54 (below_grown hb58)
 have hr89 := row_kept_new hr88 (below_grown hb69)
 have ha87 := row_fresh hr89 hN80
 have hr91 := row_kept_new hq57 (below_grown hb69)
 have ha90 := row_fresh hr91 hN80
 have ha92 := row_fresh hq68 hN80
 have hz93 := hg78.size
 try dsimp only at h75
 have hB94 := hb_new hB72 hg78
 have hk95 := hk73.kept hg78 (by simp)
 obtain ⟨base99, hb_base99⟩ : ∃ b, b = w76.heap.size := ⟨_, rfl⟩
 have hr98 := row_nilL w76 base99 44 18 noteE
 have hr104 := row_kept_new hq68 hg78
 have hr105 := row_kept_new hr91 hg78
 refine d1 7 h75 rfl rfl (op_append rfl base99 44 (z := .agg #[.int .i64 0, .int .i64 0, .int .u64 0, .int .i64 0, .slice none 0 0, .int .u64 0, .slice none 0 0, .int .i64 0, .int .i64 0, .slice none 0 0, .int .u64 0, .int .i64 0, .int .u64 0, .int .i64 0, .int .i64 0, .int .i64 0, .int .i64 0, .int .i64 0]) (size := 18) (bytes := 192) Try.underlying22 (by kernel_rfl) rfl rfl rfl hr98 rfl hk79 rfl (all_cons rfl (all_cons rfl (all_cons rfl (all_cons rfl (all_cons (row_one hr105) (all_cons rfl (all_cons (row_one hr104) (all_cons rfl (all_cons rfl (all_cons rfl (all_cons rfl (all_cons rfl (all_cons rfl (all_cons rfl (all_cons rfl (all_cons rfl (all_cons rfl (all_cons rfl all_nil)))))))))))))))))) (by have hux := unX_len pn tp; first | omega | (simp only [List.length_nil, List.length_append, List.length_cons, List.length_map]; omega)) (by have hux := unX_len pn tp; first | omega | (simp only [List.length_nil, List.length_append, List.length_cons, List.length_map]; omega)) (by omega)) ?_ ?_; clear h75
 ·
  rintro v100 w97 ⟨hr101, hg102⟩
  have hr101' : w97.ownsRow base99 44 18 v100 (([(xCf ep fl ms lg u56 u67)]).length) (([(xCf ep fl ms lg u56 u67)]).flatMap noteE) := row_push (l := []) (y := (xCf ep fl ms lg u56 u67)) hr101 rfl rfl; clear hr101
  have hz106 := hg102.size
  have hB107 := hb_row hB94 hr98 (by omega) hg102
  have hk108 := hk95.kept hg102 (own_neT hr98 hk95 (by decide))
  exact ⟨hB107, hk108⟩
 rintro v100 w97 a96 ⟨hr101, hg102⟩ h96
 have hr101' : w97.ownsRow base99 44 18 v100 (([(xCf ep fl ms lg u56 u67)]).length) (([(xCf ep fl ms lg u56 u67)]).flatMap noteE) := row_push (l := []) (y := (xCf ep fl ms lg u56 u67)) hr101 rfl rfl; clear hr101
 have hz106 := hg102.size
 have hB107 := hb_row hB94 hr98 (by omega) hg102
 have hk108 := hk95.kept hg102 (own_neT hr98 hk95 (by decide))
 refine dk0 8 (v := v100) h96 rfl rfl ⟨hB107, hk108⟩ fun a109 h109 => ?_; clear h96
 refine dr_done (by kernel_rfl) ?_
 refine co_then ?_
 refine co_seq ?_
 refine co_seq ?_
 refine co_reg ?_
 refine pk (v := pt b 0) h109 rfl (rn_load1 rfl rfl Try.isAgg25 (hk108.cell rfl)) fun a110 h110 => ?_; clear h109
 refine pk0 (v := pt b 0) h110 rfl fun a111 h111 => ?_; clear h110
 refine pk0 (v := pt b 6) h111 rfl fun a112 h112 => ?_; clear h111
 have hk113 := hk66.below hb69
 have hk114 := hk113.kept hg78 (by simp)
 have hk115 := hk114.kept hg102 (own_neT hr98 hk114 (by decide))
 refine pk (v := pv) h112 rfl (rn_load1 rfl rfl Try.isAgg47 (hk115.cell rfl)) fun a116 h116 => ?_; clear h112
 have hr117 := row_kept_new hr84 hg78
 have hr118 := row_kept_ap hr117 hr98 (fun i hi => by have := hu_pv i hi; omega) hg102
 refine pk (v := .int .i64 ((pn.length : Nat) : Int)) h116 rfl (rn_lenOwn rfl rfl Try.underlying47 hr118) fun a119 h119 => ?_; clear h116
 refine pk0 (v := .int .i64 0) h119 rfl fun a120 h120 => ?_; clear h119
 refine pl_nil ?_
 refine co_then ?_
 refine wp_block ?_
 have h121 : Slots 79 [(1, pt N3 0), (3, v100), (27, pv), (28, .int .i64 ((pn.length : Nat) : Int)), (29, .int .i64 0)] _ := h120.sub ⟨rfl, rfl, rfl, rfl, rfl, trivial⟩; clear h120
 refine co_loop (fun mm a x => ∃ (i : Nat) (un : Value), Slots 79 [(1, pt N3 0), (3, un), (27, pv), (28, .int .i64 ((pn.length : Nat) : Int)), (29, .int .i64 ((i : Nat) : Int))] a ∧ mm = pn.length - i ∧ (i ≤ pn.length) ∧ x.ownsRow w.heap.size 44 18 un ([xCf ep fl ms lg u56 u67] ++ (pn.take i).map xPn).length (([xCf ep fl ms lg u56 u67] ++ (pn.take i).map xPn).flatMap noteE) ∧ x.ownsRow 0 40 3 pv pn.length (pn.flatMap pinE) ∧ x.ownsRow 0 3 1 lgv lg.length (lg.flatMap (intE .i64)) ∧ x.ownsRow 0 102 2 cv ms.length (ms.flatMap memE) ∧ x.ownsRow w29.heap.size 102 2 u56 ms.length (ms.flatMap memE) ∧ x.ownsRow w45.heap.size 3 1 u67 lg.length (lg.flatMap (intE .i64)) ∧ Below w.heap.size w x ∧ Blk x b 66 #[.bool true, .int .i64 ep, cv, .int .u64 fl, lgv, .int .u64 hz, pv, .int .i64 tp, .bool x0.1, .int .i64 x0.2.1, .int .i64 x0.2.2.1, .int .i64 x0.2.2.2.1, .int .i64 x0.2.2.2.2, .bool x1.1, .int .i64 x1.2.1, .int .i64 x1.2.2.1, .int .i64 x1.2.2.2.1, .int .i64 x1.2.2.2.2, .bool x2.1, .int .i64 x2.2.1, .int .i64 x2.2.2.1, .int .i64 x2.2.2.2.1, .int .i64 x2.2.2.2.2] ∧ Blk x N3 25 #[pt b 0]) (pn.length - 0) ?_ ?_
 have hr122 := row_kept_new hr86 hg78
 have hr123 := row_kept_ap hr122 hr98 (fun i hi => by have := hu_lgv i hi; omega) hg102
 have hr124 := row_kept_new hr89 hg78
 have hr125 := row_kept_ap hr124 hr98 (fun i hi => by have := hu_cv i hi; omega) hg102
 have hr126 := row_kept_row hr105 hr98 hg102 (by decide)
 have hr127 := row_kept_row hr104 hr98 hg102 (by decide)
 · exact ⟨0, v100, h121.sub ⟨rfl, rfl, rfl, rfl, (slot_eq rfl (congrArg (Value.int .i64) (by first | rfl | omega))), trivial⟩, rfl, by omega, (row_eq (row_lows hr101' (by omega)) (by simp)), hr118, hr123, hr125, hr126, hr127, hB107, hk115, hk108⟩
 · rintro k128 a129 w130 ⟨i, un, h129, rfl, hi131, hf132, hf133, hf134, hf135, hf136, hf137, hB138, hk139, hk140⟩
   have hz141 := hB138.size
   have hl142 := hk139.lt
   have hl143 := hk140.lt
   have hpl9 : ([xCf ep fl ms lg u56 u67] ++ (pn.take i).map xPn).length ≤ 4 := preX_len _ (by simp) (by assumption)
   refine co_seq ?_
   refine co_reg ?_
   refine pk0 (v := .bool (decide (((i : Nat) : Int) < ((pn.length : Nat) : Int)))) h129 rfl fun a144 h144 => ?_; clear h129
   refine pl_nil ?_
   refine co_then ?_
   refine co_seq ?_
   cases hc145 : (decide (((i : Nat) : Int) < ((pn.length : Nat) : Int)))
   ·
    rw [hc145] at h144
    have hp146 : ¬ (((i : Nat) : Int) < ((pn.length : Nat) : Int)) := of_decide_eq_false hc145
    clear hc145
    refine co_false h144 rfl ?_
    refine wp_exit ?_
    refine co_thenX ?_
    refine co_thenX ?_
    refine co_blockX ?_
    refine co_then ?_
    refine co_cut (fun a x => ∃ (uc : Value), Slots 79 [(1, pt N3 0), (3, uc)] a ∧ x.ownsRow w.heap.size 44 18 uc ([xCf ep fl ms lg u56 u67] ++ pn.map xPn ++ unX pn tp).length (([xCf ep fl ms lg u56 u67] ++ pn.map xPn ++ unX pn tp).flatMap noteE) ∧ Blk x N3 25 #[pt b 0] ∧ Blk x b 66 #[.bool true, .int .i64 ep, cv, .int .u64 fl, lgv, .int .u64 hz, pv, .int .i64 tp, .bool x0.1, .int .i64 x0.2.1, .int .i64 x0.2.2.1, .int .i64 x0.2.2.2.1, .int .i64 x0.2.2.2.2, .bool x1.1, .int .i64 x1.2.1, .int .i64 x1.2.2.1, .int .i64 x1.2.2.2.1, .int .i64 x1.2.2.2.2, .bool x2.1, .int .i64 x2.2.1, .int .i64 x2.2.2.1, .int .i64 x2.2.2.2.1, .int .i64 x2.2.2.2.2] ∧ x.ownsRow w29.heap.size 102 2 u56 ms.length (ms.flatMap memE) ∧ x.ownsRow w45.heap.size 3 1 u67 lg.length (lg.flatMap (intE .i64)) ∧ Below w.heap.size w x) ?_ ?_
    ·
     refine co_seq ?_
     refine co_reg ?_
     refine pk (v := pt b 0) h144 rfl (rn_load1 rfl rfl Try.isAgg25 (hk140.cell rfl)) fun a147 h147 => ?_; clear h144
     refine pk0 (v := pt b 0) h147 rfl fun a148 h148 => ?_; clear h147
     refine pk0 (v := pt b 6) h148 rfl fun a149 h149 => ?_; clear h148
     refine pk (v := pv) h149 rfl (rn_load1 rfl rfl Try.isAgg47 (hk139.cell rfl)) fun a150 h150 => ?_; clear h149
     refine pk0 (v := .func (.func 26) #[] #[pt N3 0]) h150 rfl fun a151 h151 => ?_; clear h150
     refine pw h151 rfl (op_call (args := #[pv, .func (.func 26) #[] #[pt N3 0]]) (R := fun res xw => res = .bool (pn.any (fun p => p.1 == tp)) ∧ Below w130.heap.size w130 xw) rfl rfl rfl (by kernel_rfl) (by kernel_rfl) (Try.call25 _ _) (containsP_any pv pn N3 b ep cv fl lgv hz pv tp x0 x1 x2 w130 (row_sl hf133 pinE_len) hk140 hk139) (by rintro e x ⟨rfl, hb154⟩; exact ⟨_, rfl, ⟨rfl, hb154⟩⟩)) ?_; clear h151
     rintro _ w153 a152 ⟨rfl, hb154⟩ h152
     have hz155 := hb154.size
     have hB157 := hb_call hB138 hb154
     cases hc156 : (pn.any (fun p => p.1 == tp))
     ·
      rw [hc156] at h152
      refine pk0 (v := .bool true) h152 rfl fun a158 h158 => ?_; clear h152
      refine pl_nil ?_
      refine co_then ?_
      refine co_true h158 rfl ?_
      refine co_reg ?_
      refine pk0 (v := un) h158 rfl fun a159 h159 => ?_; clear h158
      have hk160 := hk140.below hb154
      refine pk (v := pt b 0) h159 rfl (rn_load1 rfl rfl Try.isAgg25 (hk160.cell rfl)) fun a161 h161 => ?_; clear h159
      refine pk0 (v := pt b 0) h161 rfl fun a162 h162 => ?_; clear h161
      refine pk0 (v := pt b 7) h162 rfl fun a163 h163 => ?_; clear h162
      have hk164 := hk139.below hb154
      refine pk (v := .int .i64 tp) h163 rfl (rn_load1 rfl rfl Try.isAgg3 (hk164.cell rfl)) fun a165 h165 => ?_; clear h163
      refine pk0 (v := .agg #[.int .i64 7, .int .i64 tp, .int .u64 0, .int .i64 0, .slice none 0 0, .int .u64 0, .slice none 0 0, .int .i64 0, .int .i64 0, .slice none 0 0, .int .u64 0, .int .i64 0, .int .u64 0, .int .i64 0, .int .i64 0, .int .i64 0, .int .i64 0, .int .i64 0]) h165 rfl fun a166 h166 => ?_; clear h165
      refine pw h166 rfl (op_new (v := fun N => .slice (some ⟨N, 0, none⟩) 1 1) (T := 44) (cs := #[.int .i64 7, .int .i64 tp, .int .u64 0, .int .i64 0, .slice none 0 0, .int .u64 0, .slice none 0 0, .int .i64 0, .int .i64 0, .slice none 0 0, .int .u64 0, .int .i64 0, .int .u64 0, .int .i64 0, .int .i64 0, .int .i64 0, .int .i64 0, .int .i64 0]) (by kernel_rfl) (by kernel_rfl) (by kernel_rfl)) ?_; clear h166
      rintro _ w168 a167 ⟨N169, rfl, hN172, hz173, hk171, hg170⟩ h167
      have hr175 := row_kept_new hf132 (below_grown hb154)
      have ha174 := row_fresh hr175 hN172
      have hr177 := row_kept_new hf133 (below_grown hb154)
      have ha176 := row_fresh hr177 hN172
      have hr179 := row_kept_new hf134 (below_grown hb154)
      have ha178 := row_fresh hr179 hN172
      have hr181 := row_kept_new hf135 (below_grown hb154)
      have ha180 := row_fresh hr181 hN172
      have hr183 := row_kept_new hf136 (below_grown hb154)
      have ha182 := row_fresh hr183 hN172
      have hr185 := row_kept_new hf137 (below_grown hb154)
      have ha184 := row_fresh hr185 hN172
      have hz186 := hg170.size
      try dsimp only at h167
      have hr193 := row_kept_new hr175 hg170
      refine pw h167 rfl (op_append rfl w.heap.size 44 (z := .agg #[.int .i64 0, .int .i64 0, .int .u64 0, .int .i64 0, .slice none 0 0, .int .u64 0, .slice none 0 0, .int .i64 0, .int .i64 0, .slice none 0 0, .int .u64 0, .int .i64 0, .int .u64 0, .int .i64 0, .int .i64 0, .int .i64 0, .int .i64 0, .int .i64 0]) (size := 18) (bytes := 192) Try.underlying22 (by kernel_rfl) rfl rfl rfl hr193 rfl hk171 rfl (by kernel_rfl) (by have hux := unX_len pn tp; first | omega | (simp only [List.length_nil, List.length_append, List.length_cons, List.length_map]; omega)) (by have hux := unX_len pn tp; first | omega | (simp only [List.length_nil, List.length_append, List.length_cons, List.length_map]; omega)) (by omega)) ?_; clear h167
      rintro v189 w188 a187 ⟨hr190, hg191⟩ h187
      have hr190' : w188.ownsRow w.heap.size 44 18 v189 (([xCf ep fl ms lg u56 u67] ++ (pn.take i).map xPn ++ [(xUn tp)]).length) (([xCf ep fl ms lg u56 u67] ++ (pn.take i).map xPn ++ [(xUn tp)]).flatMap noteE) := row_push (y := (xUn tp)) hr190 rfl rfl; clear hr190
      have hz194 := hg191.size
      have hk195 := hk164.kept hg170 (by simp)
      refine pk0 (v := v189) h187 rfl fun a196 h196 => ?_; clear h187
      refine pl_nil ?_
      refine co_then ?_
      have hk197 := hk160.kept hg170 (by simp)
      have hk198 := hk197.kept hg191 (own_neT hr193 hk197 (by decide))
      have hk199 := hk195.kept hg191 (own_neT hr193 hk195 (by decide))
      have hr200 := row_kept_new hr183 hg170
      have hr201 := row_kept_row hr200 hr193 hg191 (by decide)
      have hr202 := row_kept_new hr185 hg170
      have hr203 := row_kept_row hr202 hr193 hg191 (by decide)
      have hB204 := hb_new hB157 hg170
      have hB205 := hb_row hB204 hr193 (by omega) hg191
      exact ⟨v189, h196.sub ⟨rfl, rfl, trivial⟩, (row_eq hr190' (by rw [List.take_of_length_le (by omega), unX_n (by assumption)])), hk198, hk199, hr201, hr203, hB205⟩
     ·
      rw [hc156] at h152
      refine pk0 (v := .bool false) h152 rfl fun a206 h206 => ?_; clear h152
      refine pl_nil ?_
      refine co_then ?_
      refine co_false h206 rfl ?_
      refine wp_skip ?_
      refine co_then ?_
      have hr207 := row_kept_new hf132 (below_grown hb154)
      have hk208 := hk140.below hb154
      have hk209 := hk139.below hb154
      have hr210 := row_kept_new hf136 (below_grown hb154)
      have hr211 := row_kept_new hf137 (below_grown hb154)
      exact ⟨un, h206.sub ⟨rfl, rfl, trivial⟩, (row_eq hr207 (by rw [List.take_of_length_le (by omega), unX_y (by assumption), List.append_nil])), hk208, hk209, hr210, hr211, hB157⟩
    rintro a212 w213 ⟨uc, h212, hf214, hf215, hf216, hf217, hf218, hB219⟩
    have hz220 := hB219.size
    have hl221 := hf215.lt
    have hl222 := hf216.lt
    refine co_seq ?_
    refine co_reg ?_
    refine pk0 (v := uc) h212 rfl fun a223 h223 => ?_; clear h212
    refine pk (v := pt b 0) h223 rfl (rn_load1 rfl rfl Try.isAgg25 (hf215.cell rfl)) fun a224 h224 => ?_; clear h223
    refine pk0 (v := pt b 0) h224 rfl fun a225 h225 => ?_; clear h224
    refine pk0 (v := pt b 5) h225 rfl fun a226 h226 => ?_; clear h225
    refine pk (v := .int .u64 hz) h226 rfl (rn_load1 rfl rfl Try.isAgg29 (hf216.cell rfl)) fun a227 h227 => ?_; clear h226
    refine pk0 (v := .agg #[.int .i64 4, .int .i64 0, .int .u64 hz, .int .i64 0, .slice none 0 0, .int .u64 0, .slice none 0 0, .int .i64 0, .int .i64 0, .slice none 0 0, .int .u64 0, .int .i64 0, .int .u64 0, .int .i64 0, .int .i64 0, .int .i64 0, .int .i64 0, .int .i64 0]) h227 rfl fun a228 h228 => ?_; clear h227
    refine pw h228 rfl (op_new (v := fun N => .slice (some ⟨N, 0, none⟩) 1 1) (T := 44) (cs := #[.int .i64 4, .int .i64 0, .int .u64 hz, .int .i64 0, .slice none 0 0, .int .u64 0, .slice none 0 0, .int .i64 0, .int .i64 0, .slice none 0 0, .int .u64 0, .int .i64 0, .int .u64 0, .int .i64 0, .int .i64 0, .int .i64 0, .int .i64 0, .int .i64 0]) (by kernel_rfl) (by kernel_rfl) (by kernel_rfl)) ?_; clear h228
    rintro _ w230 a229 ⟨N231, rfl, hN234, hz235, hk233, hg232⟩ h229
    have ha236 := row_fresh hf214 hN234
    have ha237 := row_fresh hf217 hN234
    have ha238 := row_fresh hf218 hN234
    have hz239 := hg232.size
    try dsimp only at h229
    have hr246 := row_kept_new hf214 hg232
    refine pw h229 rfl (op_append rfl w.heap.size 44 (z := .agg #[.int .i64 0, .int .i64 0, .int .u64 0, .int .i64 0, .slice none 0 0, .int .u64 0, .slice none 0 0, .int .i64 0, .int .i64 0, .slice none 0 0, .int .u64 0, .int .i64 0, .int .u64 0, .int .i64 0, .int .i64 0, .int .i64 0, .int .i64 0, .int .i64 0]) (size := 18) (bytes := 192) Try.underlying22 (by kernel_rfl) rfl rfl rfl hr246 rfl hk233 rfl (by kernel_rfl) (by have hux := unX_len pn tp; first | omega | (simp only [List.length_nil, List.length_append, List.length_cons, List.length_map]; omega)) (by have hux := unX_len pn tp; first | omega | (simp only [List.length_nil, List.length_append, List.length_cons, List.length_map]; omega)) (by omega)) ?_; clear h229
    rintro v242 w241 a240 ⟨hr243, hg244⟩ h240
    have hr243' : w241.ownsRow w.heap.size 44 18 v242 (([xCf ep fl ms lg u56 u67] ++ pn.map xPn ++ unX pn tp ++ [(xHz hz)]).length) (([xCf ep fl ms lg u56 u67] ++ pn.map xPn ++ unX pn tp ++ [(xHz hz)]).flatMap noteE) := row_push (y := (xHz hz)) hr243 rfl rfl; clear hr243
    have hz247 := hg244.size
    have hk248 := hf216.kept hg232 (by simp)
    refine pk0 (v := v242) h240 rfl fun a249 h249 => ?_; clear h240
    refine pl_nil ?_
    refine co_then ?_
    refine co_seq ?_
    refine co_seq ?_
    refine co_reg ?_
    have hk250 := hf215.kept hg232 (by simp)
    have hk251 := hk250.kept hg244 (own_neT hr246 hk250 (by decide))
    refine pk (v := pt b 0) h249 rfl (rn_load1 rfl rfl Try.isAgg25 (hk251.cell rfl)) fun a252 h252 => ?_; clear h249
    refine pk0 (v := pt b 0) h252 rfl fun a253 h253 => ?_; clear h252
    refine pk0 (v := pt b 8) h253 rfl fun a254 h254 => ?_; clear h253
    have hk255 := hk248.kept hg244 (own_neT hr246 hk248 (by decide))
    refine pk (v := .agg #[.bool x0.1, .int .i64 x0.2.1, .int .i64 x0.2.2.1, .int .i64 x0.2.2.2.1, .int .i64 x0.2.2.2.2, .bool x1.1, .int .i64 x1.2.1, .int .i64 x1.2.2.1, .int .i64 x1.2.2.2.1, .int .i64 x1.2.2.2.2, .bool x2.1, .int .i64 x2.2.1, .int .i64 x2.2.2.1, .int .i64 x2.2.2.2.1, .int .i64 x2.2.2.2.2]) h254 rfl (rn_loadN rfl rfl Try.underlying64 rfl (by kernel_rfl) (blk_part hk255 8 (by rfl))) fun a256 h256 => ?_; clear h254
    refine pk0 (v := .int .i64 0) h256 rfl fun a257 h257 => ?_; clear h256
    refine pl_nil ?_
    refine co_then ?_
    refine wp_block ?_
    refine wp_loop_rounds 4 ?_
    refine co_unroll (n := 3) ?_
    refine co_seq ?_
    refine co_reg ?_
    refine pk0 (v := .bool (decide (0 < 3))) h257 rfl fun a258 h258 => ?_; clear h257
    refine pl_nil ?_
    refine co_then ?_
    refine co_seq ?_
    have hc259 : (decide (0 < 3)) = true := decide_eq_true (by omega)
    rw [hc259] at h258; clear hc259
    refine co_true h258 rfl ?_
    refine wp_skip ?_
    refine co_then ?_
    refine co_seq ?_
    refine wp_block ?_
    refine co_seq ?_
    refine co_reg ?_
    refine pk0 (v := .agg #[.bool x0.1, .int .i64 x0.2.1, .int .i64 x0.2.2.1, .int .i64 x0.2.2.2.1, .int .i64 x0.2.2.2.2]) h258 rfl fun a260 h260 => ?_; clear h258
    refine pw h260 rfl (op_new (v := fun N => pt N 0) (T := 63) (cs := #[.bool false, .int .i64 0, .int .i64 0, .int .i64 0, .int .i64 0]) (by kernel_rfl) (by kernel_rfl) (by kernel_rfl)) ?_; clear h260
    rintro _ w262 a261 ⟨N263, rfl, hN266, hz267, hk265, hg264⟩ h261
    have hr269 := row_kept_new hf217 hg232
    have hr270 := row_kept_row hr269 hr246 hg244 (by decide)
    have ha268 := row_fresh hr270 hN266
    have hr272 := row_kept_new hf218 hg232
    have hr273 := row_kept_row hr272 hr246 hg244 (by decide)
    have ha271 := row_fresh hr273 hN266
    have ha274 := row_fresh hr243' hN266
    have hz275 := hg264.size
    try dsimp only at h261
    refine pwD h261 rfl (op_storeN rfl rfl rfl (by kernel_rfl) (by kernel_rfl) hk265 rfl) ?_; clear h261
    rintro _ w277 a276 ⟨hk278, hz279, hg280⟩ h276
    have hk278' : Blk w277 N263 63 #[.bool x0.1, .int .i64 x0.2.1, .int .i64 x0.2.2.1, .int .i64 x0.2.2.2.1, .int .i64 x0.2.2.2.2] := hk278; clear hk278
    have hz281 := hg280.size
    refine pl_nil ?_
    refine co_then ?_
    refine co_seq ?_
    refine co_reg ?_
    refine pk0 (v := pt N263 0) h276 rfl fun a282 h282 => ?_; clear h276
    refine pk (v := .bool x0.1) h282 rfl (rn_load1 rfl rfl Try.isAgg4 (hk278'.cell rfl)) fun a283 h283 => ?_; clear h282
    refine pl_nil ?_
    refine co_then ?_
    have hB285 := hb_new hB219 hg232
    have hB286 := hb_row hB285 hr246 (by omega) hg244
    have hB287 := hb_new hB286 hg264
    have hB288 := hb_at hB287 hg280 (by omega)
    have hk289 := hk251.kept hg264 (by simp)
    have hk290 := hk289.kept hg280 (by simp; omega)
    have hk291 := hk255.kept hg264 (by simp)
    have hk292 := hk291.kept hg280 (by simp; omega)
    have hr293 := row_kept_new hr270 hg264
    have hr294 := row_kept_at hr293 hg280 (ha268)
    have hr295 := row_kept_new hr273 hg264
    have hr296 := row_kept_at hr295 hg280 (ha271)
    have hk297 := hk233.kept hg244 (ha236)
    have hk298 := hk297.kept hg264 (by simp)
    have hk299 := hk298.kept hg280 (by simp; omega)
    have hr300 := row_kept_new hr243' hg264
    have hr301 := row_kept_at hr300 hg280 (ha274)
    cases hc284 : (x0.1)
    ·
     rw [hc284] at h283
     refine co_false h283 rfl ?_
     refine wp_skip ?_
     refine co_blockN ?_
     refine co_then ?_
     refine co_reg ?_
     refine pk0 (v := .int .i64 1) h283 rfl fun a302 h302 => ?_; clear h283
     refine pk0 (v := .int .i64 1) h302 rfl fun a303 h303 => ?_; clear h302
     refine pl_nil ?_
     refine co_then ?_
     refine co_unroll (n := 2) ?_
     refine co_seq ?_
     refine co_reg ?_
     refine pk0 (v := .bool (decide (1 < 3))) h303 rfl fun a304 h304 => ?_; clear h303
     refine pl_nil ?_
     refine co_then ?_
     refine co_seq ?_
     have hc305 : (decide (1 < 3)) = true := decide_eq_true (by omega)
     rw [hc305] at h304; clear hc305
     refine co_true h304 rfl ?_
     refine wp_skip ?_
     refine co_then ?_
     refine co_seq ?_
     refine wp_block ?_
     refine co_seq ?_
     refine co_reg ?_
     refine pk0 (v := .agg #[.bool x1.1, .int .i64 x1.2.1, .int .i64 x1.2.2.1, .int .i64 x1.2.2.2.1, .int .i64 x1.2.2.2.2]) h304 rfl fun a306 h306 => ?_; clear h304
     refine pw h306 rfl (op_new (v := fun N => pt N 0) (T := 63) (cs := #[.bool false, .int .i64 0, .int .i64 0, .int .i64 0, .int .i64 0]) (by kernel_rfl) (by kernel_rfl) (by kernel_rfl)) ?_; clear h306
     rintro _ w308 a307 ⟨N309, rfl, hN312, hz313, hk311, hg310⟩ h307
     have ha314 := row_fresh hr294 hN312
     have ha315 := row_fresh hr296 hN312
     have ha316 := row_fresh hr301 hN312
     have hz317 := hg310.size
     try dsimp only at h307
     refine pwD h307 rfl (op_storeN rfl rfl rfl (by kernel_rfl) (by kernel_rfl) hk311 rfl) ?_; clear h307
     rintro _ w319 a318 ⟨hk320, hz321, hg322⟩ h318
     have hk320' : Blk w319 N309 63 #[.bool x1.1, .int .i64 x1.2.1, .int .i64 x1.2.2.1, .int .i64 x1.2.2.2.1, .int .i64 x1.2.2.2.2] := hk320; clear hk320
     have hz323 := hg322.size
     refine pl_nil ?_
     refine co_then ?_
     refine co_seq ?_
     refine co_reg ?_
     refine pk0 (v := pt N309 0) h318 rfl fun a324 h324 => ?_; clear h318
     refine pk (v := .bool x1.1) h324 rfl (rn_load1 rfl rfl Try.isAgg4 (hk320'.cell rfl)) fun a325 h325 => ?_; clear h324
     refine pl_nil ?_
     refine co_then ?_
     have hB327 := hb_new hB288 hg310
     have hB328 := hb_at hB327 hg322 (by omega)
     have hk329 := hk290.kept hg310 (by simp)
     have hk330 := hk329.kept hg322 (by simp; omega)
     have hk331 := hk292.kept hg310 (by simp)
     have hk332 := hk331.kept hg322 (by simp; omega)
     have hr333 := row_kept_new hr294 hg310
     have hr334 := row_kept_at hr333 hg322 (ha314)
     have hr335 := row_kept_new hr296 hg310
     have hr336 := row_kept_at hr335 hg322 (ha315)
     have hk337 := hk299.kept hg310 (by simp)
     have hk338 := hk337.kept hg322 (by simp; omega)
     have hr339 := row_kept_new hr301 hg310
     have hr340 := row_kept_at hr339 hg322 (ha316)
     have hk341 := hk278'.kept hg310 (by simp)
     have hk342 := hk341.kept hg322 (by simp; omega)
     cases hc326 : (x1.1)
     ·
      rw [hc326] at h325
      refine co_false h325 rfl ?_
      refine wp_skip ?_
      refine co_blockN ?_
      refine co_then ?_
      refine co_reg ?_
      refine pk0 (v := .int .i64 2) h325 rfl fun a343 h343 => ?_; clear h325
      refine pk0 (v := .int .i64 2) h343 rfl fun a344 h344 => ?_; clear h343
      refine pl_nil ?_
      refine co_then ?_
      refine co_unroll (n := 1) ?_
      refine co_seq ?_
      refine co_reg ?_
      refine pk0 (v := .bool (decide (2 < 3))) h344 rfl fun a345 h345 => ?_; clear h344
      refine pl_nil ?_
      refine co_then ?_
      refine co_seq ?_
      have hc346 : (decide (2 < 3)) = true := decide_eq_true (by omega)
      rw [hc346] at h345; clear hc346
      refine co_true h345 rfl ?_
      refine wp_skip ?_
      refine co_then ?_
      refine co_seq ?_
      refine wp_block ?_
      refine co_seq ?_
      refine co_reg ?_
      refine pk0 (v := .agg #[.bool x2.1, .int .i64 x2.2.1, .int .i64 x2.2.2.1, .int .i64 x2.2.2.2.1, .int .i64 x2.2.2.2.2]) h345 rfl fun a347 h347 => ?_; clear h345
      refine pw h347 rfl (op_new (v := fun N => pt N 0) (T := 63) (cs := #[.bool false, .int .i64 0, .int .i64 0, .int .i64 0, .int .i64 0]) (by kernel_rfl) (by kernel_rfl) (by kernel_rfl)) ?_; clear h347
      rintro _ w349 a348 ⟨N350, rfl, hN353, hz354, hk352, hg351⟩ h348
      have ha355 := row_fresh hr334 hN353
      have ha356 := row_fresh hr336 hN353
      have ha357 := row_fresh hr340 hN353
      have hz358 := hg351.size
      try dsimp only at h348
      refine pwD h348 rfl (op_storeN rfl rfl rfl (by kernel_rfl) (by kernel_rfl) hk352 rfl) ?_; clear h348
      rintro _ w360 a359 ⟨hk361, hz362, hg363⟩ h359
      have hk361' : Blk w360 N350 63 #[.bool x2.1, .int .i64 x2.2.1, .int .i64 x2.2.2.1, .int .i64 x2.2.2.2.1, .int .i64 x2.2.2.2.2] := hk361; clear hk361
      have hz364 := hg363.size
      refine pl_nil ?_
      refine co_then ?_
      refine co_seq ?_
      refine co_reg ?_
      refine pk0 (v := pt N350 0) h359 rfl fun a365 h365 => ?_; clear h359
      refine pk (v := .bool x2.1) h365 rfl (rn_load1 rfl rfl Try.isAgg4 (hk361'.cell rfl)) fun a366 h366 => ?_; clear h365
      refine pl_nil ?_
      refine co_then ?_
      have hB368 := hb_new hB328 hg351
      have hB369 := hb_at hB368 hg363 (by omega)
      have hk370 := hk330.kept hg351 (by simp)
      have hk371 := hk370.kept hg363 (by simp; omega)
      have hk372 := hk332.kept hg351 (by simp)
      have hk373 := hk372.kept hg363 (by simp; omega)
      have hr374 := row_kept_new hr334 hg351
      have hr375 := row_kept_at hr374 hg363 (ha355)
      have hr376 := row_kept_new hr336 hg351
      have hr377 := row_kept_at hr376 hg363 (ha356)
      have hk378 := hk338.kept hg351 (by simp)
      have hk379 := hk378.kept hg363 (by simp; omega)
      have hr380 := row_kept_new hr340 hg351
      have hr381 := row_kept_at hr380 hg363 (ha357)
      have hk382 := hk342.kept hg351 (by simp)
      have hk383 := hk382.kept hg363 (by simp; omega)
      have hk384 := hk320'.kept hg351 (by simp)
      have hk385 := hk384.kept hg363 (by simp; omega)
      cases hc367 : (x2.1)
      ·
       rw [hc367] at h366
       refine co_false h366 rfl ?_
       refine wp_skip ?_
       refine co_blockN ?_
       refine co_then ?_
       refine co_reg ?_
       refine pk0 (v := .int .i64 3) h366 rfl fun a386 h386 => ?_; clear h366
       refine pk0 (v := .int .i64 3) h386 rfl fun a387 h387 => ?_; clear h386
       refine pl_nil ?_
       refine co_then ?_
       refine co_unroll (n := 0) ?_
       refine co_seq ?_
       refine co_reg ?_
       refine pk0 (v := .bool (decide (3 < 3))) h387 rfl fun a388 h388 => ?_; clear h387
       refine pl_nil ?_
       refine co_then ?_
       refine co_seq ?_
       have hc389 : (decide (3 < 3)) = false := decide_eq_false (by omega)
       rw [hc389] at h388; clear hc389
       refine co_false h388 rfl ?_
       refine wp_exit ?_
       refine co_thenX ?_
       refine co_thenX ?_
       refine co_blockX ?_
       refine co_then ?_
       refine co_seq ?_
       refine co_reg ?_
       refine pk0 (v := v242) h388 rfl fun a390 h390 => ?_; clear h388
       refine pk0 (v := v242) h390 rfl fun a391 h391 => ?_; clear h390
       refine pl_nil ?_
       refine co_then ?_
       refine wp_ret ?_
       refine co_ret1 h391 rfl rfl ?_
       exact ⟨u56, u67, _, rfl, (row_eq hr381 (by rw [sdX_n (x := x0) (by assumption), sdX_n (x := x1) (by assumption), sdX_n (x := x2) (by assumption)] <;> simp only [List.append_assoc, List.append_nil, List.nil_append])), row_lows hr375 (by omega), row_lows hr377 (by omega), hB369⟩
      ·
       rw [hc367] at h366
       refine co_true h366 rfl ?_
       refine co_reg ?_
       refine pk0 (v := v242) h366 rfl fun a392 h392 => ?_; clear h366
       refine pk0 (v := pt N350 1) h392 rfl fun a393 h393 => ?_; clear h392
       refine pk (v := .agg #[.int .i64 x2.2.1, .int .i64 x2.2.2.1, .int .i64 x2.2.2.2.1, .int .i64 x2.2.2.2.2]) h393 rfl (rn_loadN rfl rfl Try.underlying42 rfl (by kernel_rfl) (blk_part hk361' 1 (by rfl))) fun a394 h394 => ?_; clear h393
       refine pk0 (v := .agg #[.int .i64 8, .int .i64 0, .int .u64 0, .int .i64 0, .slice none 0 0, .int .u64 0, .slice none 0 0, .int .i64 0, .int .i64 0, .slice none 0 0, .int .u64 0, .int .i64 0, .int .u64 0, .int .i64 0, .int .i64 x2.2.1, .int .i64 x2.2.2.1, .int .i64 x2.2.2.2.1, .int .i64 x2.2.2.2.2]) h394 rfl fun a395 h395 => ?_; clear h394
       refine pw h395 rfl (op_new (v := fun N => .slice (some ⟨N, 0, none⟩) 1 1) (T := 44) (cs := #[.int .i64 8, .int .i64 0, .int .u64 0, .int .i64 0, .slice none 0 0, .int .u64 0, .slice none 0 0, .int .i64 0, .int .i64 0, .slice none 0 0, .int .u64 0, .int .i64 0, .int .u64 0, .int .i64 0, .int .i64 x2.2.1, .int .i64 x2.2.2.1, .int .i64 x2.2.2.2.1, .int .i64 x2.2.2.2.2]) (by kernel_rfl) (by kernel_rfl) (by kernel_rfl)) ?_; clear h395
       rintro _ w397 a396 ⟨N398, rfl, hN401, hz402, hk400, hg399⟩ h396
       have ha403 := row_fresh hr375 hN401
       have ha404 := row_fresh hr377 hN401
       have ha405 := row_fresh hr381 hN401
       have hz406 := hg399.size
       try dsimp only at h396
       have hr413 := row_kept_new hr381 hg399
       refine pw h396 rfl (op_append rfl w.heap.size 44 (z := .agg #[.int .i64 0, .int .i64 0, .int .u64 0, .int .i64 0, .slice none 0 0, .int .u64 0, .slice none 0 0, .int .i64 0, .int .i64 0, .slice none 0 0, .int .u64 0, .int .i64 0, .int .u64 0, .int .i64 0, .int .i64 0, .int .i64 0, .int .i64 0, .int .i64 0]) (size := 18) (bytes := 192) Try.underlying22 (by kernel_rfl) rfl rfl rfl hr413 rfl hk400 rfl (by kernel_rfl) (by have hux := unX_len pn tp; first | omega | (simp only [List.length_nil, List.length_append, List.length_cons, List.length_map]; omega)) (by have hux := unX_len pn tp; first | omega | (simp only [List.length_nil, List.length_append, List.length_cons, List.length_map]; omega)) (by omega)) ?_; clear h396
       rintro v409 w408 a407 ⟨hr410, hg411⟩ h407
       have hr410' : w408.ownsRow w.heap.size 44 18 v409 (([xCf ep fl ms lg u56 u67] ++ pn.map xPn ++ unX pn tp ++ [(xHz hz)] ++ [(xSd x2)]).length) (([xCf ep fl ms lg u56 u67] ++ pn.map xPn ++ unX pn tp ++ [(xHz hz)] ++ [(xSd x2)]).flatMap noteE) := row_push (y := (xSd x2)) hr410 rfl rfl; clear hr410
       have hz414 := hg411.size
       have hk415 := hk373.kept hg399 (by simp)
       refine pk0 (v := v409) h407 rfl fun a416 h416 => ?_; clear h407
       refine pl_nil ?_
       refine co_blockN ?_
       refine co_then ?_
       refine co_reg ?_
       refine pk0 (v := .int .i64 3) h416 rfl fun a417 h417 => ?_; clear h416
       refine pk0 (v := .int .i64 3) h417 rfl fun a418 h418 => ?_; clear h417
       refine pl_nil ?_
       refine co_then ?_
       refine co_unroll (n := 0) ?_
       refine co_seq ?_
       refine co_reg ?_
       refine pk0 (v := .bool (decide (3 < 3))) h418 rfl fun a419 h419 => ?_; clear h418
       refine pl_nil ?_
       refine co_then ?_
       refine co_seq ?_
       have hc420 : (decide (3 < 3)) = false := decide_eq_false (by omega)
       rw [hc420] at h419; clear hc420
       refine co_false h419 rfl ?_
       refine wp_exit ?_
       refine co_thenX ?_
       refine co_thenX ?_
       refine co_blockX ?_
       refine co_then ?_
       refine co_seq ?_
       refine co_reg ?_
       refine pk0 (v := v409) h419 rfl fun a421 h421 => ?_; clear h419
       refine pk0 (v := v409) h421 rfl fun a422 h422 => ?_; clear h421
       refine pl_nil ?_
       refine co_then ?_
       refine wp_ret ?_
       refine co_ret1 h422 rfl rfl ?_
       have hr423 := row_kept_new hr375 hg399
       have hr424 := row_kept_row hr423 hr413 hg411 (by decide)
       have hr425 := row_kept_new hr377 hg399
       have hr426 := row_kept_row hr425 hr413 hg411 (by decide)
       have hB427 := hb_new hB369 hg399
       have hB428 := hb_row hB427 hr413 (by omega) hg411
       exact ⟨u56, u67, _, rfl, (row_eq hr410' (by rw [sdX_n (x := x0) (by assumption), sdX_n (x := x1) (by assumption), sdX_y (x := x2) (by assumption)] <;> simp only [List.append_assoc, List.append_nil, List.nil_append])), row_lows hr424 (by omega), row_lows hr426 (by omega), hB428⟩
     ·
      rw [hc326] at h325
      refine co_true h325 rfl ?_
      refine co_reg ?_
      refine pk0 (v := v242) h325 rfl fun a429 h429 => ?_; clear h325
      refine pk0 (v := pt N309 1) h429 rfl fun a430 h430 => ?_; clear h429
      refine pk (v := .agg #[.int .i64 x1.2.1, .int .i64 x1.2.2.1, .int .i64 x1.2.2.2.1, .int .i64 x1.2.2.2.2]) h430 rfl (rn_loadN rfl rfl Try.underlying42 rfl (by kernel_rfl) (blk_part hk320' 1 (by rfl))) fun a431 h431 => ?_; clear h430
      refine pk0 (v := .agg #[.int .i64 8, .int .i64 0, .int .u64 0, .int .i64 0, .slice none 0 0, .int .u64 0, .slice none 0 0, .int .i64 0, .int .i64 0, .slice none 0 0, .int .u64 0, .int .i64 0, .int .u64 0, .int .i64 0, .int .i64 x1.2.1, .int .i64 x1.2.2.1, .int .i64 x1.2.2.2.1, .int .i64 x1.2.2.2.2]) h431 rfl fun a432 h432 => ?_; clear h431
      refine pw h432 rfl (op_new (v := fun N => .slice (some ⟨N, 0, none⟩) 1 1) (T := 44) (cs := #[.int .i64 8, .int .i64 0, .int .u64 0, .int .i64 0, .slice none 0 0, .int .u64 0, .slice none 0 0, .int .i64 0, .int .i64 0, .slice none 0 0, .int .u64 0, .int .i64 0, .int .u64 0, .int .i64 0, .int .i64 x1.2.1, .int .i64 x1.2.2.1, .int .i64 x1.2.2.2.1, .int .i64 x1.2.2.2.2]) (by kernel_rfl) (by kernel_rfl) (by kernel_rfl)) ?_; clear h432
      rintro _ w434 a433 ⟨N435, rfl, hN438, hz439, hk437, hg436⟩ h433
      have ha440 := row_fresh hr334 hN438
      have ha441 := row_fresh hr336 hN438
      have ha442 := row_fresh hr340 hN438
      have hz443 := hg436.size
      try dsimp only at h433
      have hr450 := row_kept_new hr340 hg436
      refine pw h433 rfl (op_append rfl w.heap.size 44 (z := .agg #[.int .i64 0, .int .i64 0, .int .u64 0, .int .i64 0, .slice none 0 0, .int .u64 0, .slice none 0 0, .int .i64 0, .int .i64 0, .slice none 0 0, .int .u64 0, .int .i64 0, .int .u64 0, .int .i64 0, .int .i64 0, .int .i64 0, .int .i64 0, .int .i64 0]) (size := 18) (bytes := 192) Try.underlying22 (by kernel_rfl) rfl rfl rfl hr450 rfl hk437 rfl (by kernel_rfl) (by have hux := unX_len pn tp; first | omega | (simp only [List.length_nil, List.length_append, List.length_cons, List.length_map]; omega)) (by have hux := unX_len pn tp; first | omega | (simp only [List.length_nil, List.length_append, List.length_cons, List.length_map]; omega)) (by omega)) ?_; clear h433
      rintro v446 w445 a444 ⟨hr447, hg448⟩ h444
      have hr447' : w445.ownsRow w.heap.size 44 18 v446 (([xCf ep fl ms lg u56 u67] ++ pn.map xPn ++ unX pn tp ++ [(xHz hz)] ++ [(xSd x1)]).length) (([xCf ep fl ms lg u56 u67] ++ pn.map xPn ++ unX pn tp ++ [(xHz hz)] ++ [(xSd x1)]).flatMap noteE) := row_push (y := (xSd x1)) hr447 rfl rfl; clear hr447
      have hz451 := hg448.size
      have hk452 := hk332.kept hg436 (by simp)
      refine pk0 (v := v446) h444 rfl fun a453 h453 => ?_; clear h444
      refine pl_nil ?_
      refine co_blockN ?_
      refine co_then ?_
      refine co_reg ?_
      refine pk0 (v := .int .i64 2) h453 rfl fun a454 h454 => ?_; clear h453
      refine pk0 (v := .int .i64 2) h454 rfl fun a455 h455 => ?_; clear h454
      refine pl_nil ?_
      refine co_then ?_
      refine co_unroll (n := 1) ?_
      refine co_seq ?_
      refine co_reg ?_
      refine pk0 (v := .bool (decide (2 < 3))) h455 rfl fun a456 h456 => ?_; clear h455
      refine pl_nil ?_
      refine co_then ?_
      refine co_seq ?_
      have hc457 : (decide (2 < 3)) = true := decide_eq_true (by omega)
      rw [hc457] at h456; clear hc457
      refine co_true h456 rfl ?_
      refine wp_skip ?_
      refine co_then ?_
      refine co_seq ?_
      refine wp_block ?_
      refine co_seq ?_
      refine co_reg ?_
      refine pk0 (v := .agg #[.bool x2.1, .int .i64 x2.2.1, .int .i64 x2.2.2.1, .int .i64 x2.2.2.2.1, .int .i64 x2.2.2.2.2]) h456 rfl fun a458 h458 => ?_; clear h456
      refine pw h458 rfl (op_new (v := fun N => pt N 0) (T := 63) (cs := #[.bool false, .int .i64 0, .int .i64 0, .int .i64 0, .int .i64 0]) (by kernel_rfl) (by kernel_rfl) (by kernel_rfl)) ?_; clear h458
      rintro _ w460 a459 ⟨N461, rfl, hN464, hz465, hk463, hg462⟩ h459
      have hr467 := row_kept_new hr334 hg436
      have hr468 := row_kept_row hr467 hr450 hg448 (by decide)
      have ha466 := row_fresh hr468 hN464
      have hr470 := row_kept_new hr336 hg436
      have hr471 := row_kept_row hr470 hr450 hg448 (by decide)
      have ha469 := row_fresh hr471 hN464
      have ha472 := row_fresh hr447' hN464
      have hz473 := hg462.size
      try dsimp only at h459
      refine pwD h459 rfl (op_storeN rfl rfl rfl (by kernel_rfl) (by kernel_rfl) hk463 rfl) ?_; clear h459
      rintro _ w475 a474 ⟨hk476, hz477, hg478⟩ h474
      have hk476' : Blk w475 N461 63 #[.bool x2.1, .int .i64 x2.2.1, .int .i64 x2.2.2.1, .int .i64 x2.2.2.2.1, .int .i64 x2.2.2.2.2] := hk476; clear hk476
      have hz479 := hg478.size
      refine pl_nil ?_
      refine co_then ?_
      refine co_seq ?_
      refine co_reg ?_
      refine pk0 (v := pt N461 0) h474 rfl fun a480 h480 => ?_; clear h474
      refine pk (v := .bool x2.1) h480 rfl (rn_load1 rfl rfl Try.isAgg4 (hk476'.cell rfl)) fun a481 h481 => ?_; clear h480
      refine pl_nil ?_
      refine co_then ?_
      have hB483 := hb_new hB328 hg436
      have hB484 := hb_row hB483 hr450 (by omega) hg448
      have hB485 := hb_new hB484 hg462
      have hB486 := hb_at hB485 hg478 (by omega)
      have hk487 := hk330.kept hg436 (by simp)
      have hk488 := hk487.kept hg448 (own_neT hr450 hk487 (by decide))
      have hk489 := hk488.kept hg462 (by simp)
      have hk490 := hk489.kept hg478 (by simp; omega)
      have hk491 := hk452.kept hg448 (own_neT hr450 hk452 (by decide))
      have hk492 := hk491.kept hg462 (by simp)
      have hk493 := hk492.kept hg478 (by simp; omega)
      have hr494 := row_kept_new hr468 hg462
      have hr495 := row_kept_at hr494 hg478 (ha466)
      have hr496 := row_kept_new hr471 hg462
      have hr497 := row_kept_at hr496 hg478 (ha469)
      have hk498 := hk342.kept hg436 (by simp)
      have hk499 := hk498.kept hg448 (ha274)
      have hk500 := hk499.kept hg462 (by simp)
      have hk501 := hk500.kept hg478 (by simp; omega)
      have hk502 := hk320'.kept hg436 (by simp)
      have hk503 := hk502.kept hg448 (ha316)
      have hk504 := hk503.kept hg462 (by simp)
      have hk505 := hk504.kept hg478 (by simp; omega)
      have hk506 := hk437.kept hg448 (ha442)
      have hk507 := hk506.kept hg462 (by simp)
      have hk508 := hk507.kept hg478 (by simp; omega)
      have hr509 := row_kept_new hr447' hg462
      have hr510 := row_kept_at hr509 hg478 (ha472)
      cases hc482 : (x2.1)
      ·
       rw [hc482] at h481
       refine co_false h481 rfl ?_
       refine wp_skip ?_
       refine co_blockN ?_
       refine co_then ?_
       refine co_reg ?_
       refine pk0 (v := .int .i64 3) h481 rfl fun a511 h511 => ?_; clear h481
       refine pk0 (v := .int .i64 3) h511 rfl fun a512 h512 => ?_; clear h511
       refine pl_nil ?_
       refine co_then ?_
       refine co_unroll (n := 0) ?_
       refine co_seq ?_
       refine co_reg ?_
       refine pk0 (v := .bool (decide (3 < 3))) h512 rfl fun a513 h513 => ?_; clear h512
       refine pl_nil ?_
       refine co_then ?_
       refine co_seq ?_
       have hc514 : (decide (3 < 3)) = false := decide_eq_false (by omega)
       rw [hc514] at h513; clear hc514
       refine co_false h513 rfl ?_
       refine wp_exit ?_
       refine co_thenX ?_
       refine co_thenX ?_
       refine co_blockX ?_
       refine co_then ?_
       refine co_seq ?_
       refine co_reg ?_
       refine pk0 (v := v446) h513 rfl fun a515 h515 => ?_; clear h513
       refine pk0 (v := v446) h515 rfl fun a516 h516 => ?_; clear h515
       refine pl_nil ?_
       refine co_then ?_
       refine wp_ret ?_
       refine co_ret1 h516 rfl rfl ?_
       exact ⟨u56, u67, _, rfl, (row_eq hr510 (by rw [sdX_n (x := x0) (by assumption), sdX_y (x := x1) (by assumption), sdX_n (x := x2) (by assumption)] <;> simp only [List.append_assoc, List.append_nil, List.nil_append])), row_lows hr495 (by omega), row_lows hr497 (by omega), hB486⟩
      ·
       rw [hc482] at h481
       refine co_true h481 rfl ?_
       refine co_reg ?_
       refine pk0 (v := v446) h481 rfl fun a517 h517 => ?_; clear h481
       refine pk0 (v := pt N461 1) h517 rfl fun a518 h518 => ?_; clear h517
       refine pk (v := .agg #[.int .i64 x2.2.1, .int .i64 x2.2.2.1, .int .i64 x2.2.2.2.1, .int .i64 x2.2.2.2.2]) h518 rfl (rn_loadN rfl rfl Try.underlying42 rfl (by kernel_rfl) (blk_part hk476' 1 (by rfl))) fun a519 h519 => ?_; clear h518
       refine pk0 (v := .agg #[.int .i64 8, .int .i64 0, .int .u64 0, .int .i64 0, .slice none 0 0, .int .u64 0, .slice none 0 0, .int .i64 0, .int .i64 0, .slice none 0 0, .int .u64 0, .int .i64 0, .int .u64 0, .int .i64 0, .int .i64 x2.2.1, .int .i64 x2.2.2.1, .int .i64 x2.2.2.2.1, .int .i64 x2.2.2.2.2]) h519 rfl fun a520 h520 => ?_; clear h519
       refine pw h520 rfl (op_new (v := fun N => .slice (some ⟨N, 0, none⟩) 1 1) (T := 44) (cs := #[.int .i64 8, .int .i64 0, .int .u64 0, .int .i64 0, .slice none 0 0, .int .u64 0, .slice none 0 0, .int .i64 0, .int .i64 0, .slice none 0 0, .int .u64 0, .int .i64 0, .int .u64 0, .int .i64 0, .int .i64 x2.2.1, .int .i64 x2.2.2.1, .int .i64 x2.2.2.2.1, .int .i64 x2.2.2.2.2]) (by kernel_rfl) (by kernel_rfl) (by kernel_rfl)) ?_; clear h520
       rintro _ w522 a521 ⟨N523, rfl, hN526, hz527, hk525, hg524⟩ h521
       have ha528 := row_fresh hr495 hN526
       have ha529 := row_fresh hr497 hN526
       have ha530 := row_fresh hr510 hN526
       have hz531 := hg524.size
       try dsimp only at h521
       have hr538 := row_kept_new hr510 hg524
       refine pw h521 rfl (op_append rfl w.heap.size 44 (z := .agg #[.int .i64 0, .int .i64 0, .int .u64 0, .int .i64 0, .slice none 0 0, .int .u64 0, .slice none 0 0, .int .i64 0, .int .i64 0, .slice none 0 0, .int .u64 0, .int .i64 0, .int .u64 0, .int .i64 0, .int .i64 0, .int .i64 0, .int .i64 0, .int .i64 0]) (size := 18) (bytes := 192) Try.underlying22 (by kernel_rfl) rfl rfl rfl hr538 rfl hk525 rfl (by kernel_rfl) (by have hux := unX_len pn tp; first | omega | (simp only [List.length_nil, List.length_append, List.length_cons, List.length_map]; omega)) (by have hux := unX_len pn tp; first | omega | (simp only [List.length_nil, List.length_append, List.length_cons, List.length_map]; omega)) (by omega)) ?_; clear h521
       rintro v534 w533 a532 ⟨hr535, hg536⟩ h532
       have hr535' : w533.ownsRow w.heap.size 44 18 v534 (([xCf ep fl ms lg u56 u67] ++ pn.map xPn ++ unX pn tp ++ [(xHz hz)] ++ [(xSd x1)] ++ [(xSd x2)]).length) (([xCf ep fl ms lg u56 u67] ++ pn.map xPn ++ unX pn tp ++ [(xHz hz)] ++ [(xSd x1)] ++ [(xSd x2)]).flatMap noteE) := row_push (y := (xSd x2)) hr535 rfl rfl; clear hr535
       have hz539 := hg536.size
       have hk540 := hk493.kept hg524 (by simp)
       refine pk0 (v := v534) h532 rfl fun a541 h541 => ?_; clear h532
       refine pl_nil ?_
       refine co_blockN ?_
       refine co_then ?_
       refine co_reg ?_
       refine pk0 (v := .int .i64 3) h541 rfl fun a542 h542 => ?_; clear h541
       refine pk0 (v := .int .i64 3) h542 rfl fun a543 h543 => ?_; clear h542
       refine pl_nil ?_
       refine co_then ?_
       refine co_unroll (n := 0) ?_
       refine co_seq ?_
       refine co_reg ?_
       refine pk0 (v := .bool (decide (3 < 3))) h543 rfl fun a544 h544 => ?_; clear h543
       refine pl_nil ?_
       refine co_then ?_
       refine co_seq ?_
       have hc545 : (decide (3 < 3)) = false := decide_eq_false (by omega)
       rw [hc545] at h544; clear hc545
       refine co_false h544 rfl ?_
       refine wp_exit ?_
       refine co_thenX ?_
       refine co_thenX ?_
       refine co_blockX ?_
       refine co_then ?_
       refine co_seq ?_
       refine co_reg ?_
       refine pk0 (v := v534) h544 rfl fun a546 h546 => ?_; clear h544
       refine pk0 (v := v534) h546 rfl fun a547 h547 => ?_; clear h546
       refine pl_nil ?_
       refine co_then ?_
       refine wp_ret ?_
       refine co_ret1 h547 rfl rfl ?_
       have hr548 := row_kept_new hr495 hg524
       have hr549 := row_kept_row hr548 hr538 hg536 (by decide)
       have hr550 := row_kept_new hr497 hg524
       have hr551 := row_kept_row hr550 hr538 hg536 (by decide)
       have hB552 := hb_new hB486 hg524
       have hB553 := hb_row hB552 hr538 (by omega) hg536
       exact ⟨u56, u67, _, rfl, (row_eq hr535' (by rw [sdX_n (x := x0) (by assumption), sdX_y (x := x1) (by assumption), sdX_y (x := x2) (by assumption)] <;> simp only [List.append_assoc, List.append_nil, List.nil_append])), row_lows hr549 (by omega), row_lows hr551 (by omega), hB553⟩
    ·
     rw [hc284] at h283
     refine co_true h283 rfl ?_
     refine co_reg ?_
     refine pk0 (v := v242) h283 rfl fun a554 h554 => ?_; clear h283
     refine pk0 (v := pt N263 1) h554 rfl fun a555 h555 => ?_; clear h554
     refine pk (v := .agg #[.int .i64 x0.2.1, .int .i64 x0.2.2.1, .int .i64 x0.2.2.2.1, .int .i64 x0.2.2.2.2]) h555 rfl (rn_loadN rfl rfl Try.underlying42 rfl (by kernel_rfl) (blk_part hk278' 1 (by rfl))) fun a556 h556 => ?_; clear h555
     refine pk0 (v := .agg #[.int .i64 8, .int .i64 0, .int .u64 0, .int .i64 0, .slice none 0 0, .int .u64 0, .slice none 0 0, .int .i64 0, .int .i64 0, .slice none 0 0, .int .u64 0, .int .i64 0, .int .u64 0, .int .i64 0, .int .i64 x0.2.1, .int .i64 x0.2.2.1, .int .i64 x0.2.2.2.1, .int .i64 x0.2.2.2.2]) h556 rfl fun a557 h557 => ?_; clear h556
     refine pw h557 rfl (op_new (v := fun N => .slice (some ⟨N, 0, none⟩) 1 1) (T := 44) (cs := #[.int .i64 8, .int .i64 0, .int .u64 0, .int .i64 0, .slice none 0 0, .int .u64 0, .slice none 0 0, .int .i64 0, .int .i64 0, .slice none 0 0, .int .u64 0, .int .i64 0, .int .u64 0, .int .i64 0, .int .i64 x0.2.1, .int .i64 x0.2.2.1, .int .i64 x0.2.2.2.1, .int .i64 x0.2.2.2.2]) (by kernel_rfl) (by kernel_rfl) (by kernel_rfl)) ?_; clear h557
     rintro _ w559 a558 ⟨N560, rfl, hN563, hz564, hk562, hg561⟩ h558
     have ha565 := row_fresh hr294 hN563
     have ha566 := row_fresh hr296 hN563
     have ha567 := row_fresh hr301 hN563
     have hz568 := hg561.size
     try dsimp only at h558
     have hr575 := row_kept_new hr301 hg561
     refine pw h558 rfl (op_append rfl w.heap.size 44 (z := .agg #[.int .i64 0, .int .i64 0, .int .u64 0, .int .i64 0, .slice none 0 0, .int .u64 0, .slice none 0 0, .int .i64 0, .int .i64 0, .slice none 0 0, .int .u64 0, .int .i64 0, .int .u64 0, .int .i64 0, .int .i64 0, .int .i64 0, .int .i64 0, .int .i64 0]) (size := 18) (bytes := 192) Try.underlying22 (by kernel_rfl) rfl rfl rfl hr575 rfl hk562 rfl (by kernel_rfl) (by have hux := unX_len pn tp; first | omega | (simp only [List.length_nil, List.length_append, List.length_cons, List.length_map]; omega)) (by have hux := unX_len pn tp; first | omega | (simp only [List.length_nil, List.length_append, List.length_cons, List.length_map]; omega)) (by omega)) ?_; clear h558
     rintro v571 w570 a569 ⟨hr572, hg573⟩ h569
     have hr572' : w570.ownsRow w.heap.size 44 18 v571 (([xCf ep fl ms lg u56 u67] ++ pn.map xPn ++ unX pn tp ++ [(xHz hz)] ++ [(xSd x0)]).length) (([xCf ep fl ms lg u56 u67] ++ pn.map xPn ++ unX pn tp ++ [(xHz hz)] ++ [(xSd x0)]).flatMap noteE) := row_push (y := (xSd x0)) hr572 rfl rfl; clear hr572
     have hz576 := hg573.size
     have hk577 := hk292.kept hg561 (by simp)
     refine pk0 (v := v571) h569 rfl fun a578 h578 => ?_; clear h569
     refine pl_nil ?_
     refine co_blockN ?_
     refine co_then ?_
     refine co_reg ?_
     refine pk0 (v := .int .i64 1) h578 rfl fun a579 h579 => ?_; clear h578
     refine pk0 (v := .int .i64 1) h579 rfl fun a580 h580 => ?_; clear h579
     refine pl_nil ?_
     refine co_then ?_
     refine co_unroll (n := 2) ?_
     refine co_seq ?_
     refine co_reg ?_
     refine pk0 (v := .bool (decide (1 < 3))) h580 rfl fun a581 h581 => ?_; clear h580
     refine pl_nil ?_
     refine co_then ?_
     refine co_seq ?_
     have hc582 : (decide (1 < 3)) = true := decide_eq_true (by omega)
     rw [hc582] at h581; clear hc582
     refine co_true h581 rfl ?_
     refine wp_skip ?_
     refine co_then ?_
     refine co_seq ?_
     refine wp_block ?_
     refine co_seq ?_
     refine co_reg ?_
     refine pk0 (v := .agg #[.bool x1.1, .int .i64 x1.2.1, .int .i64 x1.2.2.1, .int .i64 x1.2.2.2.1, .int .i64 x1.2.2.2.2]) h581 rfl fun a583 h583 => ?_; clear h581
     refine pw h583 rfl (op_new (v := fun N => pt N 0) (T := 63) (cs := #[.bool false, .int .i64 0, .int .i64 0, .int .i64 0, .int .i64 0]) (by kernel_rfl) (by kernel_rfl) (by kernel_rfl)) ?_; clear h583
     rintro _ w585 a584 ⟨N586, rfl, hN589, hz590, hk588, hg587⟩ h584
     have hr592 := row_kept_new hr294 hg561
     have hr593 := row_kept_row hr592 hr575 hg573 (by decide)
     have ha591 := row_fresh hr593 hN589
     have hr595 := row_kept_new hr296 hg561
     have hr596 := row_kept_row hr595 hr575 hg573 (by decide)
     have ha594 := row_fresh hr596 hN589
     have ha597 := row_fresh hr572' hN589
     have hz598 := hg587.size
     try dsimp only at h584
     refine pwD h584 rfl (op_storeN rfl rfl rfl (by kernel_rfl) (by kernel_rfl) hk588 rfl) ?_; clear h584
     rintro _ w600 a599 ⟨hk601, hz602, hg603⟩ h599
     have hk601' : Blk w600 N586 63 #[.bool x1.1, .int .i64 x1.2.1, .int .i64 x1.2.2.1, .int .i64 x1.2.2.2.1, .int .i64 x1.2.2.2.2] := hk601; clear hk601
     have hz604 := hg603.size
     refine pl_nil ?_
     refine co_then ?_
     refine co_seq ?_
     refine co_reg ?_
     refine pk0 (v := pt N586 0) h599 rfl fun a605 h605 => ?_; clear h599
     refine pk (v := .bool x1.1) h605 rfl (rn_load1 rfl rfl Try.isAgg4 (hk601'.cell rfl)) fun a606 h606 => ?_; clear h605
     refine pl_nil ?_
     refine co_then ?_
     have hB608 := hb_new hB288 hg561
     have hB609 := hb_row hB608 hr575 (by omega) hg573
     have hB610 := hb_new hB609 hg587
     have hB611 := hb_at hB610 hg603 (by omega)
     have hk612 := hk290.kept hg561 (by simp)
     have hk613 := hk612.kept hg573 (own_neT hr575 hk612 (by decide))
     have hk614 := hk613.kept hg587 (by simp)
     have hk615 := hk614.kept hg603 (by simp; omega)
     have hk616 := hk577.kept hg573 (own_neT hr575 hk577 (by decide))
     have hk617 := hk616.kept hg587 (by simp)
     have hk618 := hk617.kept hg603 (by simp; omega)
     have hr619 := row_kept_new hr593 hg587
     have hr620 := row_kept_at hr619 hg603 (ha591)
     have hr621 := row_kept_new hr596 hg587
     have hr622 := row_kept_at hr621 hg603 (ha594)
     have hk623 := hk278'.kept hg561 (by simp)
     have hk624 := hk623.kept hg573 (ha274)
     have hk625 := hk624.kept hg587 (by simp)
     have hk626 := hk625.kept hg603 (by simp; omega)
     have hk627 := hk562.kept hg573 (ha567)
     have hk628 := hk627.kept hg587 (by simp)
     have hk629 := hk628.kept hg603 (by simp; omega)
     have hr630 := row_kept_new hr572' hg587
     have hr631 := row_kept_at hr630 hg603 (ha597)
     cases hc607 : (x1.1)
     ·
      rw [hc607] at h606
      refine co_false h606 rfl ?_
      refine wp_skip ?_
      refine co_blockN ?_
      refine co_then ?_
      refine co_reg ?_
      refine pk0 (v := .int .i64 2) h606 rfl fun a632 h632 => ?_; clear h606
      refine pk0 (v := .int .i64 2) h632 rfl fun a633 h633 => ?_; clear h632
      refine pl_nil ?_
      refine co_then ?_
      refine co_unroll (n := 1) ?_
      refine co_seq ?_
      refine co_reg ?_
      refine pk0 (v := .bool (decide (2 < 3))) h633 rfl fun a634 h634 => ?_; clear h633
      refine pl_nil ?_
      refine co_then ?_
      refine co_seq ?_
      have hc635 : (decide (2 < 3)) = true := decide_eq_true (by omega)
      rw [hc635] at h634; clear hc635
      refine co_true h634 rfl ?_
      refine wp_skip ?_
      refine co_then ?_
      refine co_seq ?_
      refine wp_block ?_
      refine co_seq ?_
      refine co_reg ?_
      refine pk0 (v := .agg #[.bool x2.1, .int .i64 x2.2.1, .int .i64 x2.2.2.1, .int .i64 x2.2.2.2.1, .int .i64 x2.2.2.2.2]) h634 rfl fun a636 h636 => ?_; clear h634
      refine pw h636 rfl (op_new (v := fun N => pt N 0) (T := 63) (cs := #[.bool false, .int .i64 0, .int .i64 0, .int .i64 0, .int .i64 0]) (by kernel_rfl) (by kernel_rfl) (by kernel_rfl)) ?_; clear h636
      rintro _ w638 a637 ⟨N639, rfl, hN642, hz643, hk641, hg640⟩ h637
      have ha644 := row_fresh hr620 hN642
      have ha645 := row_fresh hr622 hN642
      have ha646 := row_fresh hr631 hN642
      have hz647 := hg640.size
      try dsimp only at h637
      refine pwD h637 rfl (op_storeN rfl rfl rfl (by kernel_rfl) (by kernel_rfl) hk641 rfl) ?_; clear h637
      rintro _ w649 a648 ⟨hk650, hz651, hg652⟩ h648
      have hk650' : Blk w649 N639 63 #[.bool x2.1, .int .i64 x2.2.1, .int .i64 x2.2.2.1, .int .i64 x2.2.2.2.1, .int .i64 x2.2.2.2.2] := hk650; clear hk650
      have hz653 := hg652.size
      refine pl_nil ?_
      refine co_then ?_
      refine co_seq ?_
      refine co_reg ?_
      refine pk0 (v := pt N639 0) h648 rfl fun a654 h654 => ?_; clear h648
      refine pk (v := .bool x2.1) h654 rfl (rn_load1 rfl rfl Try.isAgg4 (hk650'.cell rfl)) fun a655 h655 => ?_; clear h654
      refine pl_nil ?_
      refine co_then ?_
      have hB657 := hb_new hB611 hg640
      have hB658 := hb_at hB657 hg652 (by omega)
      have hk659 := hk615.kept hg640 (by simp)
      have hk660 := hk659.kept hg652 (by simp; omega)
      have hk661 := hk618.kept hg640 (by simp)
      have hk662 := hk661.kept hg652 (by simp; omega)
      have hr663 := row_kept_new hr620 hg640
      have hr664 := row_kept_at hr663 hg652 (ha644)
      have hr665 := row_kept_new hr622 hg640
      have hr666 := row_kept_at hr665 hg652 (ha645)
      have hk667 := hk626.kept hg640 (by simp)
      have hk668 := hk667.kept hg652 (by simp; omega)
      have hk669 := hk629.kept hg640 (by simp)
      have hk670 := hk669.kept hg652 (by simp; omega)
      have hr671 := row_kept_new hr631 hg640
      have hr672 := row_kept_at hr671 hg652 (ha646)
      have hk673 := hk601'.kept hg640 (by simp)
      have hk674 := hk673.kept hg652 (by simp; omega)
      cases hc656 : (x2.1)
      ·
       rw [hc656] at h655
       refine co_false h655 rfl ?_
       refine wp_skip ?_
       refine co_blockN ?_
       refine co_then ?_
       refine co_reg ?_
       refine pk0 (v := .int .i64 3) h655 rfl fun a675 h675 => ?_; clear h655
       refine pk0 (v := .int .i64 3) h675 rfl fun a676 h676 => ?_; clear h675
       refine pl_nil ?_
       refine co_then ?_
       refine co_unroll (n := 0) ?_
       refine co_seq ?_
       refine co_reg ?_
       refine pk0 (v := .bool (decide (3 < 3))) h676 rfl fun a677 h677 => ?_; clear h676
       refine pl_nil ?_
       refine co_then ?_
       refine co_seq ?_
       have hc678 : (decide (3 < 3)) = false := decide_eq_false (by omega)
       rw [hc678] at h677; clear hc678
       refine co_false h677 rfl ?_
       refine wp_exit ?_
       refine co_thenX ?_
       refine co_thenX ?_
       refine co_blockX ?_
       refine co_then ?_
       refine co_seq ?_
       refine co_reg ?_
       refine pk0 (v := v571) h677 rfl fun a679 h679 => ?_; clear h677
       refine pk0 (v := v571) h679 rfl fun a680 h680 => ?_; clear h679
       refine pl_nil ?_
       refine co_then ?_
       refine wp_ret ?_
       refine co_ret1 h680 rfl rfl ?_
       exact ⟨u56, u67, _, rfl, (row_eq hr672 (by rw [sdX_y (x := x0) (by assumption), sdX_n (x := x1) (by assumption), sdX_n (x := x2) (by assumption)] <;> simp only [List.append_assoc, List.append_nil, List.nil_append])), row_lows hr664 (by omega), row_lows hr666 (by omega), hB658⟩
      ·
       rw [hc656] at h655
       refine co_true h655 rfl ?_
       refine co_reg ?_
       refine pk0 (v := v571) h655 rfl fun a681 h681 => ?_; clear h655
       refine pk0 (v := pt N639 1) h681 rfl fun a682 h682 => ?_; clear h681
       refine pk (v := .agg #[.int .i64 x2.2.1, .int .i64 x2.2.2.1, .int .i64 x2.2.2.2.1, .int .i64 x2.2.2.2.2]) h682 rfl (rn_loadN rfl rfl Try.underlying42 rfl (by kernel_rfl) (blk_part hk650' 1 (by rfl))) fun a683 h683 => ?_; clear h682
       refine pk0 (v := .agg #[.int .i64 8, .int .i64 0, .int .u64 0, .int .i64 0, .slice none 0 0, .int .u64 0, .slice none 0 0, .int .i64 0, .int .i64 0, .slice none 0 0, .int .u64 0, .int .i64 0, .int .u64 0, .int .i64 0, .int .i64 x2.2.1, .int .i64 x2.2.2.1, .int .i64 x2.2.2.2.1, .int .i64 x2.2.2.2.2]) h683 rfl fun a684 h684 => ?_; clear h683
       refine pw h684 rfl (op_new (v := fun N => .slice (some ⟨N, 0, none⟩) 1 1) (T := 44) (cs := #[.int .i64 8, .int .i64 0, .int .u64 0, .int .i64 0, .slice none 0 0, .int .u64 0, .slice none 0 0, .int .i64 0, .int .i64 0, .slice none 0 0, .int .u64 0, .int .i64 0, .int .u64 0, .int .i64 0, .int .i64 x2.2.1, .int .i64 x2.2.2.1, .int .i64 x2.2.2.2.1, .int .i64 x2.2.2.2.2]) (by kernel_rfl) (by kernel_rfl) (by kernel_rfl)) ?_; clear h684
       rintro _ w686 a685 ⟨N687, rfl, hN690, hz691, hk689, hg688⟩ h685
       have ha692 := row_fresh hr664 hN690
       have ha693 := row_fresh hr666 hN690
       have ha694 := row_fresh hr672 hN690
       have hz695 := hg688.size
       try dsimp only at h685
       have hr702 := row_kept_new hr672 hg688
       refine pw h685 rfl (op_append rfl w.heap.size 44 (z := .agg #[.int .i64 0, .int .i64 0, .int .u64 0, .int .i64 0, .slice none 0 0, .int .u64 0, .slice none 0 0, .int .i64 0, .int .i64 0, .slice none 0 0, .int .u64 0, .int .i64 0, .int .u64 0, .int .i64 0, .int .i64 0, .int .i64 0, .int .i64 0, .int .i64 0]) (size := 18) (bytes := 192) Try.underlying22 (by kernel_rfl) rfl rfl rfl hr702 rfl hk689 rfl (by kernel_rfl) (by have hux := unX_len pn tp; first | omega | (simp only [List.length_nil, List.length_append, List.length_cons, List.length_map]; omega)) (by have hux := unX_len pn tp; first | omega | (simp only [List.length_nil, List.length_append, List.length_cons, List.length_map]; omega)) (by omega)) ?_; clear h685
       rintro v698 w697 a696 ⟨hr699, hg700⟩ h696
       have hr699' : w697.ownsRow w.heap.size 44 18 v698 (([xCf ep fl ms lg u56 u67] ++ pn.map xPn ++ unX pn tp ++ [(xHz hz)] ++ [(xSd x0)] ++ [(xSd x2)]).length) (([xCf ep fl ms lg u56 u67] ++ pn.map xPn ++ unX pn tp ++ [(xHz hz)] ++ [(xSd x0)] ++ [(xSd x2)]).flatMap noteE) := row_push (y := (xSd x2)) hr699 rfl rfl; clear hr699
       have hz703 := hg700.size
       have hk704 := hk662.kept hg688 (by simp)
       refine pk0 (v := v698) h696 rfl fun a705 h705 => ?_; clear h696
       refine pl_nil ?_
       refine co_blockN ?_
       refine co_then ?_
       refine co_reg ?_
       refine pk0 (v := .int .i64 3) h705 rfl fun a706 h706 => ?_; clear h705
       refine pk0 (v := .int .i64 3) h706 rfl fun a707 h707 => ?_; clear h706
       refine pl_nil ?_
       refine co_then ?_
       refine co_unroll (n := 0) ?_
       refine co_seq ?_
       refine co_reg ?_
       refine pk0 (v := .bool (decide (3 < 3))) h707 rfl fun a708 h708 => ?_; clear h707
       refine pl_nil ?_
       refine co_then ?_
       refine co_seq ?_
       have hc709 : (decide (3 < 3)) = false := decide_eq_false (by omega)
       rw [hc709] at h708; clear hc709
       refine co_false h708 rfl ?_
       refine wp_exit ?_
       refine co_thenX ?_
       refine co_thenX ?_
       refine co_blockX ?_
       refine co_then ?_
       refine co_seq ?_
       refine co_reg ?_
       refine pk0 (v := v698) h708 rfl fun a710 h710 => ?_; clear h708
       refine pk0 (v := v698) h710 rfl fun a711 h711 => ?_; clear h710
       refine pl_nil ?_
       refine co_then ?_
       refine wp_ret ?_
       refine co_ret1 h711 rfl rfl ?_
       have hr712 := row_kept_new hr664 hg688
       have hr713 := row_kept_row hr712 hr702 hg700 (by decide)
       have hr714 := row_kept_new hr666 hg688
       have hr715 := row_kept_row hr714 hr702 hg700 (by decide)
       have hB716 := hb_new hB658 hg688
       have hB717 := hb_row hB716 hr702 (by omega) hg700
       exact ⟨u56, u67, _, rfl, (row_eq hr699' (by rw [sdX_y (x := x0) (by assumption), sdX_n (x := x1) (by assumption), sdX_y (x := x2) (by assumption)] <;> simp only [List.append_assoc, List.append_nil, List.nil_append])), row_lows hr713 (by omega), row_lows hr715 (by omega), hB717⟩
     ·
      rw [hc607] at h606
      refine co_true h606 rfl ?_
      refine co_reg ?_
      refine pk0 (v := v571) h606 rfl fun a718 h718 => ?_; clear h606
      refine pk0 (v := pt N586 1) h718 rfl fun a719 h719 => ?_; clear h718
      refine pk (v := .agg #[.int .i64 x1.2.1, .int .i64 x1.2.2.1, .int .i64 x1.2.2.2.1, .int .i64 x1.2.2.2.2]) h719 rfl (rn_loadN rfl rfl Try.underlying42 rfl (by kernel_rfl) (blk_part hk601' 1 (by rfl))) fun a720 h720 => ?_; clear h719
      refine pk0 (v := .agg #[.int .i64 8, .int .i64 0, .int .u64 0, .int .i64 0, .slice none 0 0, .int .u64 0, .slice none 0 0, .int .i64 0, .int .i64 0, .slice none 0 0, .int .u64 0, .int .i64 0, .int .u64 0, .int .i64 0, .int .i64 x1.2.1, .int .i64 x1.2.2.1, .int .i64 x1.2.2.2.1, .int .i64 x1.2.2.2.2]) h720 rfl fun a721 h721 => ?_; clear h720
      refine pw h721 rfl (op_new (v := fun N => .slice (some ⟨N, 0, none⟩) 1 1) (T := 44) (cs := #[.int .i64 8, .int .i64 0, .int .u64 0, .int .i64 0, .slice none 0 0, .int .u64 0, .slice none 0 0, .int .i64 0, .int .i64 0, .slice none 0 0, .int .u64 0, .int .i64 0, .int .u64 0, .int .i64 0, .int .i64 x1.2.1, .int .i64 x1.2.2.1, .int .i64 x1.2.2.2.1, .int .i64 x1.2.2.2.2]) (by kernel_rfl) (by kernel_rfl) (by kernel_rfl)) ?_; clear h721
      rintro _ w723 a722 ⟨N724, rfl, hN727, hz728, hk726, hg725⟩ h722
      have ha729 := row_fresh hr620 hN727
      have ha730 := row_fresh hr622 hN727
      have ha731 := row_fresh hr631 hN727
      have hz732 := hg725.size
      try dsimp only at h722
      have hr739 := row_kept_new hr631 hg725
      refine pw h722 rfl (op_append rfl w.heap.size 44 (z := .agg #[.int .i64 0, .int .i64 0, .int .u64 0, .int .i64 0, .slice none 0 0, .int .u64 0, .slice none 0 0, .int .i64 0, .int .i64 0, .slice none 0 0, .int .u64 0, .int .i64 0, .int .u64 0, .int .i64 0, .int .i64 0, .int .i64 0, .int .i64 0, .int .i64 0]) (size := 18) (bytes := 192) Try.underlying22 (by kernel_rfl) rfl rfl rfl hr739 rfl hk726 rfl (by kernel_rfl) (by have hux := unX_len pn tp; first | omega | (simp only [List.length_nil, List.length_append, List.length_cons, List.length_map]; omega)) (by have hux := unX_len pn tp; first | omega | (simp only [List.length_nil, List.length_append, List.length_cons, List.length_map]; omega)) (by omega)) ?_; clear h722
      rintro v735 w734 a733 ⟨hr736, hg737⟩ h733
      have hr736' : w734.ownsRow w.heap.size 44 18 v735 (([xCf ep fl ms lg u56 u67] ++ pn.map xPn ++ unX pn tp ++ [(xHz hz)] ++ [(xSd x0)] ++ [(xSd x1)]).length) (([xCf ep fl ms lg u56 u67] ++ pn.map xPn ++ unX pn tp ++ [(xHz hz)] ++ [(xSd x0)] ++ [(xSd x1)]).flatMap noteE) := row_push (y := (xSd x1)) hr736 rfl rfl; clear hr736
      have hz740 := hg737.size
      have hk741 := hk618.kept hg725 (by simp)
      refine pk0 (v := v735) h733 rfl fun a742 h742 => ?_; clear h733
      refine pl_nil ?_
      refine co_blockN ?_
      refine co_then ?_
      refine co_reg ?_
      refine pk0 (v := .int .i64 2) h742 rfl fun a743 h743 => ?_; clear h742
      refine pk0 (v := .int .i64 2) h743 rfl fun a744 h744 => ?_; clear h743
      refine pl_nil ?_
      refine co_then ?_
      refine co_unroll (n := 1) ?_
      refine co_seq ?_
      refine co_reg ?_
      refine pk0 (v := .bool (decide (2 < 3))) h744 rfl fun a745 h745 => ?_; clear h744
      refine pl_nil ?_
      refine co_then ?_
      refine co_seq ?_
      have hc746 : (decide (2 < 3)) = true := decide_eq_true (by omega)
      rw [hc746] at h745; clear hc746
      refine co_true h745 rfl ?_
      refine wp_skip ?_
      refine co_then ?_
      refine co_seq ?_
      refine wp_block ?_
      refine co_seq ?_
      refine co_reg ?_
      refine pk0 (v := .agg #[.bool x2.1, .int .i64 x2.2.1, .int .i64 x2.2.2.1, .int .i64 x2.2.2.2.1, .int .i64 x2.2.2.2.2]) h745 rfl fun a747 h747 => ?_; clear h745
      refine pw h747 rfl (op_new (v := fun N => pt N 0) (T := 63) (cs := #[.bool false, .int .i64 0, .int .i64 0, .int .i64 0, .int .i64 0]) (by kernel_rfl) (by kernel_rfl) (by kernel_rfl)) ?_; clear h747
      rintro _ w749 a748 ⟨N750, rfl, hN753, hz754, hk752, hg751⟩ h748
      have hr756 := row_kept_new hr620 hg725
      have hr757 := row_kept_row hr756 hr739 hg737 (by decide)
      have ha755 := row_fresh hr757 hN753
      have hr759 := row_kept_new hr622 hg725
      have hr760 := row_kept_row hr759 hr739 hg737 (by decide)
      have ha758 := row_fresh hr760 hN753
      have ha761 := row_fresh hr736' hN753
      have hz762 := hg751.size
      try dsimp only at h748
      refine pwD h748 rfl (op_storeN rfl rfl rfl (by kernel_rfl) (by kernel_rfl) hk752 rfl) ?_; clear h748
      rintro _ w764 a763 ⟨hk765, hz766, hg767⟩ h763
      have hk765' : Blk w764 N750 63 #[.bool x2.1, .int .i64 x2.2.1, .int .i64 x2.2.2.1, .int .i64 x2.2.2.2.1, .int .i64 x2.2.2.2.2] := hk765; clear hk765
      have hz768 := hg767.size
      refine pl_nil ?_
      refine co_then ?_
      refine co_seq ?_
      refine co_reg ?_
      refine pk0 (v := pt N750 0) h763 rfl fun a769 h769 => ?_; clear h763
      refine pk (v := .bool x2.1) h769 rfl (rn_load1 rfl rfl Try.isAgg4 (hk765'.cell rfl)) fun a770 h770 => ?_; clear h769
      refine pl_nil ?_
      refine co_then ?_
      have hB772 := hb_new hB611 hg725
      have hB773 := hb_row hB772 hr739 (by omega) hg737
      have hB774 := hb_new hB773 hg751
      have hB775 := hb_at hB774 hg767 (by omega)
      have hk776 := hk615.kept hg725 (by simp)
      have hk777 := hk776.kept hg737 (own_neT hr739 hk776 (by decide))
      have hk778 := hk777.kept hg751 (by simp)
      have hk779 := hk778.kept hg767 (by simp; omega)
      have hk780 := hk741.kept hg737 (own_neT hr739 hk741 (by decide))
      have hk781 := hk780.kept hg751 (by simp)
      have hk782 := hk781.kept hg767 (by simp; omega)
      have hr783 := row_kept_new hr757 hg751
      have hr784 := row_kept_at hr783 hg767 (ha755)
      have hr785 := row_kept_new hr760 hg751
      have hr786 := row_kept_at hr785 hg767 (ha758)
      have hk787 := hk626.kept hg725 (by simp)
      have hk788 := hk787.kept hg737 (own_neT hr739 hk787 (by decide))
      have hk789 := hk788.kept hg751 (by simp)
      have hk790 := hk789.kept hg767 (by simp; omega)
      have hk791 := hk601'.kept hg725 (by simp)
      have hk792 := hk791.kept hg737 (ha597)
      have hk793 := hk792.kept hg751 (by simp)
      have hk794 := hk793.kept hg767 (by simp; omega)
      have hk795 := hk726.kept hg737 (ha731)
      have hk796 := hk795.kept hg751 (by simp)
      have hk797 := hk796.kept hg767 (by simp; omega)
      have hr798 := row_kept_new hr736' hg751
      have hr799 := row_kept_at hr798 hg767 (ha761)
      cases hc771 : (x2.1)
      ·
       rw [hc771] at h770
       refine co_false h770 rfl ?_
       refine wp_skip ?_
       refine co_blockN ?_
       refine co_then ?_
       refine co_reg ?_
       refine pk0 (v := .int .i64 3) h770 rfl fun a800 h800 => ?_; clear h770
       refine pk0 (v := .int .i64 3) h800 rfl fun a801 h801 => ?_; clear h800
       refine pl_nil ?_
       refine co_then ?_
       refine co_unroll (n := 0) ?_
       refine co_seq ?_
       refine co_reg ?_
       refine pk0 (v := .bool (decide (3 < 3))) h801 rfl fun a802 h802 => ?_; clear h801
       refine pl_nil ?_
       refine co_then ?_
       refine co_seq ?_
       have hc803 : (decide (3 < 3)) = false := decide_eq_false (by omega)
       rw [hc803] at h802; clear hc803
       refine co_false h802 rfl ?_
       refine wp_exit ?_
       refine co_thenX ?_
       refine co_thenX ?_
       refine co_blockX ?_
       refine co_then ?_
       refine co_seq ?_
       refine co_reg ?_
       refine pk0 (v := v735) h802 rfl fun a804 h804 => ?_; clear h802
       refine pk0 (v := v735) h804 rfl fun a805 h805 => ?_; clear h804
       refine pl_nil ?_
       refine co_then ?_
       refine wp_ret ?_
       refine co_ret1 h805 rfl rfl ?_
       exact ⟨u56, u67, _, rfl, (row_eq hr799 (by rw [sdX_y (x := x0) (by assumption), sdX_y (x := x1) (by assumption), sdX_n (x := x2) (by assumption)] <;> simp only [List.append_assoc, List.append_nil, List.nil_append])), row_lows hr784 (by omega), row_lows hr786 (by omega), hB775⟩
      ·
       rw [hc771] at h770
       refine co_true h770 rfl ?_
       refine co_reg ?_
       refine pk0 (v := v735) h770 rfl fun a806 h806 => ?_; clear h770
       refine pk0 (v := pt N750 1) h806 rfl fun a807 h807 => ?_; clear h806
       refine pk (v := .agg #[.int .i64 x2.2.1, .int .i64 x2.2.2.1, .int .i64 x2.2.2.2.1, .int .i64 x2.2.2.2.2]) h807 rfl (rn_loadN rfl rfl Try.underlying42 rfl (by kernel_rfl) (blk_part hk765' 1 (by rfl))) fun a808 h808 => ?_; clear h807
       refine pk0 (v := .agg #[.int .i64 8, .int .i64 0, .int .u64 0, .int .i64 0, .slice none 0 0, .int .u64 0, .slice none 0 0, .int .i64 0, .int .i64 0, .slice none 0 0, .int .u64 0, .int .i64 0, .int .u64 0, .int .i64 0, .int .i64 x2.2.1, .int .i64 x2.2.2.1, .int .i64 x2.2.2.2.1, .int .i64 x2.2.2.2.2]) h808 rfl fun a809 h809 => ?_; clear h808
       refine pw h809 rfl (op_new (v := fun N => .slice (some ⟨N, 0, none⟩) 1 1) (T := 44) (cs := #[.int .i64 8, .int .i64 0, .int .u64 0, .int .i64 0, .slice none 0 0, .int .u64 0, .slice none 0 0, .int .i64 0, .int .i64 0, .slice none 0 0, .int .u64 0, .int .i64 0, .int .u64 0, .int .i64 0, .int .i64 x2.2.1, .int .i64 x2.2.2.1, .int .i64 x2.2.2.2.1, .int .i64 x2.2.2.2.2]) (by kernel_rfl) (by kernel_rfl) (by kernel_rfl)) ?_; clear h809
       rintro _ w811 a810 ⟨N812, rfl, hN815, hz816, hk814, hg813⟩ h810
       have ha817 := row_fresh hr784 hN815
       have ha818 := row_fresh hr786 hN815
       have ha819 := row_fresh hr799 hN815
       have hz820 := hg813.size
       try dsimp only at h810
       have hr827 := row_kept_new hr799 hg813
       refine pw h810 rfl (op_append rfl w.heap.size 44 (z := .agg #[.int .i64 0, .int .i64 0, .int .u64 0, .int .i64 0, .slice none 0 0, .int .u64 0, .slice none 0 0, .int .i64 0, .int .i64 0, .slice none 0 0, .int .u64 0, .int .i64 0, .int .u64 0, .int .i64 0, .int .i64 0, .int .i64 0, .int .i64 0, .int .i64 0]) (size := 18) (bytes := 192) Try.underlying22 (by kernel_rfl) rfl rfl rfl hr827 rfl hk814 rfl (by kernel_rfl) (by have hux := unX_len pn tp; first | omega | (simp only [List.length_nil, List.length_append, List.length_cons, List.length_map]; omega)) (by have hux := unX_len pn tp; first | omega | (simp only [List.length_nil, List.length_append, List.length_cons, List.length_map]; omega)) (by omega)) ?_; clear h810
       rintro v823 w822 a821 ⟨hr824, hg825⟩ h821
       have hr824' : w822.ownsRow w.heap.size 44 18 v823 (([xCf ep fl ms lg u56 u67] ++ pn.map xPn ++ unX pn tp ++ [(xHz hz)] ++ [(xSd x0)] ++ [(xSd x1)] ++ [(xSd x2)]).length) (([xCf ep fl ms lg u56 u67] ++ pn.map xPn ++ unX pn tp ++ [(xHz hz)] ++ [(xSd x0)] ++ [(xSd x1)] ++ [(xSd x2)]).flatMap noteE) := row_push (y := (xSd x2)) hr824 rfl rfl; clear hr824
       have hz828 := hg825.size
       have hk829 := hk782.kept hg813 (by simp)
       refine pk0 (v := v823) h821 rfl fun a830 h830 => ?_; clear h821
       refine pl_nil ?_
       refine co_blockN ?_
       refine co_then ?_
       refine co_reg ?_
       refine pk0 (v := .int .i64 3) h830 rfl fun a831 h831 => ?_; clear h830
       refine pk0 (v := .int .i64 3) h831 rfl fun a832 h832 => ?_; clear h831
       refine pl_nil ?_
       refine co_then ?_
       refine co_unroll (n := 0) ?_
       refine co_seq ?_
       refine co_reg ?_
       refine pk0 (v := .bool (decide (3 < 3))) h832 rfl fun a833 h833 => ?_; clear h832
       refine pl_nil ?_
       refine co_then ?_
       refine co_seq ?_
       have hc834 : (decide (3 < 3)) = false := decide_eq_false (by omega)
       rw [hc834] at h833; clear hc834
       refine co_false h833 rfl ?_
       refine wp_exit ?_
       refine co_thenX ?_
       refine co_thenX ?_
       refine co_blockX ?_
       refine co_then ?_
       refine co_seq ?_
       refine co_reg ?_
       refine pk0 (v := v823) h833 rfl fun a835 h835 => ?_; clear h833
       refine pk0 (v := v823) h835 rfl fun a836 h836 => ?_; clear h835
       refine pl_nil ?_
       refine co_then ?_
       refine wp_ret ?_
       refine co_ret1 h836 rfl rfl ?_
       have hr837 := row_kept_new hr784 hg813
       have hr838 := row_kept_row hr837 hr827 hg825 (by decide)
       have hr839 := row_kept_new hr786 hg813
       have hr840 := row_kept_row hr839 hr827 hg825 (by decide)
       have hB841 := hb_new hB775 hg813
       have hB842 := hb_row hB841 hr827 (by omega) hg825
       exact ⟨u56, u67, _, rfl, (row_eq hr824' (by rw [sdX_y (x := x0) (by assumption), sdX_y (x := x1) (by assumption), sdX_y (x := x2) (by assumption)] <;> simp only [List.append_assoc, List.append_nil, List.nil_append])), row_lows hr838 (by omega), row_lows hr840 (by omega), hB842⟩
   ·
    rw [hc145] at h144
    have hp843 : ((i : Nat) : Int) < ((pn.length : Nat) : Int) := of_decide_eq_true hc145
    clear hc145
    refine co_true h144 rfl ?_
    refine wp_skip ?_
    refine co_then ?_
    refine co_seq ?_
    refine wp_block ?_
    refine co_seq ?_
    refine co_reg ?_
    obtain ⟨y844, hy844⟩ : ∃ z, pn[i]? = some z := ⟨_, List.getElem?_eq_getElem (by first | omega | (simp; done) | (simp; omega))⟩
    refine pk (v := pt (blkOf pv) (offOf pv + i * 3)) h144 rfl (rn_index rfl rfl rfl Try.underlying47 Try.sizeOf40 (row_sl hf133 pinE_len) (by omega) (by first | omega | (simp; done) | (simp; omega))) fun a845 h845 => ?_; clear h144
    refine pk (v := .agg #[.int .i64 y844.1, .int .u64 y844.2.1, .int .i64 y844.2.2]) h845 rfl (rn_loadN rfl rfl Try.underlying40 rfl (by kernel_rfl) (sl_at (row_sl hf133 pinE_len) hy844)) fun a846 h846 => ?_; clear h845
    refine pw h846 rfl (op_new (v := fun N => pt N 0) (T := 40) (cs := #[.int .i64 0, .int .u64 0, .int .i64 0]) (by kernel_rfl) (by kernel_rfl) (by kernel_rfl)) ?_; clear h846
    rintro _ w848 a847 ⟨N849, rfl, hN852, hz853, hk851, hg850⟩ h847
    have ha854 := row_fresh hf132 hN852
    have ha855 := row_fresh hf133 hN852
    have ha856 := row_fresh hf134 hN852
    have ha857 := row_fresh hf135 hN852
    have ha858 := row_fresh hf136 hN852
    have ha859 := row_fresh hf137 hN852
    have hz860 := hg850.size
    try dsimp only at h847
    refine pwD h847 rfl (op_storeN rfl rfl rfl (by kernel_rfl) (by kernel_rfl) hk851 rfl) ?_; clear h847
    rintro _ w862 a861 ⟨hk863, hz864, hg865⟩ h861
    have hk863' : Blk w862 N849 40 #[.int .i64 y844.1, .int .u64 y844.2.1, .int .i64 y844.2.2] := hk863; clear hk863
    have hz866 := hg865.size
    refine pl_nil ?_
    refine co_then ?_
    refine co_reg ?_
    refine pk0 (v := un) h861 rfl fun a867 h867 => ?_; clear h861
    refine pk (v := .agg #[.int .i64 y844.1, .int .u64 y844.2.1, .int .i64 y844.2.2]) h867 rfl (rn_loadN rfl rfl Try.underlying40 rfl (by kernel_rfl) hk863'.all) fun a868 h868 => ?_; clear h867
    refine pk0 (v := .agg #[.int .i64 6, .int .i64 0, .int .u64 0, .int .i64 0, .slice none 0 0, .int .u64 0, .slice none 0 0, .int .i64 0, .int .i64 0, .slice none 0 0, .int .u64 0, .int .i64 y844.1, .int .u64 y844.2.1, .int .i64 y844.2.2, .int .i64 0, .int .i64 0, .int .i64 0, .int .i64 0]) h868 rfl fun a869 h869 => ?_; clear h868
    refine pw h869 rfl (op_new (v := fun N => .slice (some ⟨N, 0, none⟩) 1 1) (T := 44) (cs := #[.int .i64 6, .int .i64 0, .int .u64 0, .int .i64 0, .slice none 0 0, .int .u64 0, .slice none 0 0, .int .i64 0, .int .i64 0, .slice none 0 0, .int .u64 0, .int .i64 y844.1, .int .u64 y844.2.1, .int .i64 y844.2.2, .int .i64 0, .int .i64 0, .int .i64 0, .int .i64 0]) (by kernel_rfl) (by kernel_rfl) (by kernel_rfl)) ?_; clear h869
    rintro _ w871 a870 ⟨N872, rfl, hN875, hz876, hk874, hg873⟩ h870
    have hr878 := row_kept_new hf132 hg850
    have hr879 := row_kept_at hr878 hg865 (ha854)
    have ha877 := row_fresh hr879 hN875
    have hr881 := row_kept_new hf133 hg850
    have hr882 := row_kept_at hr881 hg865 (ha855)
    have ha880 := row_fresh hr882 hN875
    have hr884 := row_kept_new hf134 hg850
    have hr885 := row_kept_at hr884 hg865 (ha856)
    have ha883 := row_fresh hr885 hN875
    have hr887 := row_kept_new hf135 hg850
    have hr888 := row_kept_at hr887 hg865 (ha857)
    have ha886 := row_fresh hr888 hN875
    have hr890 := row_kept_new hf136 hg850
    have hr891 := row_kept_at hr890 hg865 (ha858)
    have ha889 := row_fresh hr891 hN875
    have hr893 := row_kept_new hf137 hg850
    have hr894 := row_kept_at hr893 hg865 (ha859)
    have ha892 := row_fresh hr894 hN875
    have hz895 := hg873.size
    try dsimp only at h870
    have hr902 := row_kept_new hr879 hg873
    refine pw h870 rfl (op_append rfl w.heap.size 44 (z := .agg #[.int .i64 0, .int .i64 0, .int .u64 0, .int .i64 0, .slice none 0 0, .int .u64 0, .slice none 0 0, .int .i64 0, .int .i64 0, .slice none 0 0, .int .u64 0, .int .i64 0, .int .u64 0, .int .i64 0, .int .i64 0, .int .i64 0, .int .i64 0, .int .i64 0]) (size := 18) (bytes := 192) Try.underlying22 (by kernel_rfl) rfl rfl rfl hr902 rfl hk874 rfl (by kernel_rfl) (by have hux := unX_len pn tp; first | omega | (simp only [List.length_nil, List.length_append, List.length_cons, List.length_map]; omega)) (by have hux := unX_len pn tp; first | omega | (simp only [List.length_nil, List.length_append, List.length_cons, List.length_map]; omega)) (by omega)) ?_; clear h870
    rintro v898 w897 a896 ⟨hr899, hg900⟩ h896
    have hr899' : w897.ownsRow w.heap.size 44 18 v898 (([xCf ep fl ms lg u56 u67] ++ (pn.take i).map xPn ++ [(xPn y844)]).length) (([xCf ep fl ms lg u56 u67] ++ (pn.take i).map xPn ++ [(xPn y844)]).flatMap noteE) := row_push (y := (xPn y844)) hr899 rfl rfl; clear hr899
    have hz903 := hg900.size
    have hk904 := hk139.kept hg850 (by simp)
    have hk905 := hk904.kept hg865 (by simp; omega)
    have hk906 := hk905.kept hg873 (by simp)
    refine pk0 (v := v898) h896 rfl fun a907 h907 => ?_; clear h896
    refine pl_nil ?_
    refine co_blockN ?_
    refine co_then ?_
    refine co_reg ?_
    refine pk (v := .int .i64 ((i + 1 : Nat) : Int)) h907 rfl (rn_arith' rfl rfl rfl rfl rfl rfl (IntWalk.i64_in _ (by omega)) (by omega)) fun a908 h908 => ?_; clear h907
    refine pk0 (v := .int .i64 ((i + 1 : Nat) : Int)) h908 rfl fun a909 h909 => ?_; clear h908
    refine pl_nil ?_
    refine co_then ?_
    refine ⟨(pn.length - (i + 1)), by omega, ?_⟩
    have hr910 := row_kept_new hr882 hg873
    have hr911 := row_kept_ap hr910 hr902 (fun i hi => by have := hu_pv i hi; omega) hg900
    have hr912 := row_kept_new hr885 hg873
    have hr913 := row_kept_ap hr912 hr902 (fun i hi => by have := hu_lgv i hi; omega) hg900
    have hr914 := row_kept_new hr888 hg873
    have hr915 := row_kept_ap hr914 hr902 (fun i hi => by have := hu_cv i hi; omega) hg900
    have hr916 := row_kept_new hr891 hg873
    have hr917 := row_kept_row hr916 hr902 hg900 (by decide)
    have hr918 := row_kept_new hr894 hg873
    have hr919 := row_kept_row hr918 hr902 hg900 (by decide)
    have hB920 := hb_new hB138 hg850
    have hB921 := hb_at hB920 hg865 (by omega)
    have hB922 := hb_new hB921 hg873
    have hB923 := hb_row hB922 hr902 (by omega) hg900
    have hk924 := hk906.kept hg900 (own_neT hr902 hk906 (by decide))
    have hk925 := hk140.kept hg850 (by simp)
    have hk926 := hk925.kept hg865 (by simp; omega)
    have hk927 := hk926.kept hg873 (by simp)
    have hk928 := hk927.kept hg900 (own_neT hr902 hk927 (by decide))
    exact ⟨i + 1, v898, h909.sub ⟨rfl, rfl, rfl, rfl, rfl, trivial⟩, rfl, by omega, (row_eq hr899' (pnX_snoc hy844)), hr911, hr913, hr915, hr917, hr919, hB923, hk924, hk928⟩
set_option maxRecDepth 100000 in
set_option maxHeartbeats 3200000 in
theorem msNtsN (b : Nat) (ep : Int) (cv : Value) (fl : Int) (lgv : Value) (hz : Int) (pv : Value) (pn : List PinT) (tp : Int) (x0 : SdT) (x1 : SdT) (x2 : SdT) (ms : List MemT) (lg : List Int) (w : World) (hb : Blk w b 66 #[.bool true, .int .i64 ep, cv, .int .u64 fl, lgv, .int .u64 hz, pv, .int .i64 tp, .bool x0.1, .int .i64 x0.2.1, .int .i64 x0.2.2.1, .int .i64 x0.2.2.2.1, .int .i64 x0.2.2.2.2, .bool x1.1, .int .i64 x1.2.1, .int .i64 x1.2.2.1, .int .i64 x1.2.2.2.1, .int .i64 x1.2.2.2.2, .bool x2.1, .int .i64 x2.2.1, .int .i64 x2.2.2.1, .int .i64 x2.2.2.2.1, .int .i64 x2.2.2.2.2]) (hpn : w.ownsRow 0 40 3 pv pn.length (pn.flatMap pinE)) (hp3 : pn.length ≤ 3) (hcvr : w.ownsRow 0 102 2 cv ms.length (ms.flatMap memE)) (hlgr : w.ownsRow 0 3 1 lgv lg.length (lg.flatMap (intE .i64))) (hln : ms.length ≤ 20 ∧ lg.length ≤ 100) (hep : ¬ 0 < ep) :
    Calls Try.prog 9 #[pt b 0] w fun e w' => ∃ (u : Value), e = .returned (u) ∧ w'.ownsRow w.heap.size 44 18 u (([] : List NoteX) ++ pn.map xPn ++ unX pn tp ++ [xHz hz] ++ sdX x0 ++ sdX x1 ++ sdX x2).length ((([] : List NoteX) ++ pn.map xPn ++ unX pn tp ++ [xHz hz] ++ sdX x0 ++ sdX x1 ++ sdX x2).flatMap noteE) ∧ Below w.heap.size w w' := by
 have hlb9 := hb.lt
 have hB0 := Below.refl w.heap.size w
 have hl_hb := hb.lt
 have hu_cv := fun i (hi : Value.ownBlock cv = some i) => (hcvr.lt i hi).2
 have hu_lgv := fun i (hi : Value.ownBlock lgv = some i) => (hlgr.lt i hi).2
 have hu_pv := fun i (hi : Value.ownBlock pv = some i) => (hpn.lt i hi).2
 refine co_enter (n := 79) Try.func9 rfl rfl rfl [(0, pt b 0)] rfl (fun a h0 => ?_)
 refine co_seq ?_
 refine co_reg ?_
 refine pw h0 rfl (op_new (v := fun N => pt N 0) (T := 25) (cs := #[pt b 0]) (by kernel_rfl) (by kernel_rfl) (by kernel_rfl)) ?_; clear h0
 rintro _ w2 a1 ⟨N3, rfl, hN6, hz7, hk5, hg4⟩ h1
 have ha8 := row_fresh hpn hN6
 have ha9 := row_fresh hlgr hN6
 have ha10 := row_fresh hcvr hN6
 have hz11 := hg4.size
 try dsimp only at h1
 refine pk0 (v := .slice none 0 0) h1 rfl fun a12 h12 => ?_; clear h1
 refine pl_nil ?_
 refine co_then ?_
 refine co_seq ?_
 refine co_seq ?_
 refine co_reg ?_
 refine pk (v := pt b 0) h12 rfl (rn_load1 rfl rfl Try.isAgg25 (hk5.cell rfl)) fun a13 h13 => ?_; clear h12
 have hk16 := hb.kept hg4 (by simp)
 refine pw h13 rfl (op_call (args := #[pt b 0]) (R := fun res xw => res = .bool false ∧ Below w2.heap.size w2 xw) rfl rfl rfl (by kernel_rfl) (by kernel_rfl) (Try.call19 _ _) (mszeroT b ep cv fl lgv hz pv tp x0 x1 x2 w2 hk16) (by rintro e x ⟨rfl, hb17⟩; exact ⟨_, rfl, ⟨rfl, hb17⟩⟩)) ?_; clear h13
 rintro _ w15 a14 ⟨rfl, hb17⟩ h14
 have hz18 := hb17.size
 refine pl_nil ?_
 refine co_then ?_
 refine co_false h14 rfl ?_
 refine wp_skip ?_
 refine co_then ?_
 refine co_seq ?_
 refine co_reg ?_
 refine pk0 (v := .slice none 0 0) h14 rfl fun a19 h19 => ?_; clear h14
 refine pl_nil ?_
 refine co_then ?_
 refine co_seq ?_
 refine co_seq ?_
 refine co_reg ?_
 have hk20 := hk5.below hb17
 refine pk (v := pt b 0) h19 rfl (rn_load1 rfl rfl Try.isAgg25 (hk20.cell rfl)) fun a21 h21 => ?_; clear h19
 refine pk0 (v := pt b 0) h21 rfl fun a22 h22 => ?_; clear h21
 refine pk0 (v := pt b 1) h22 rfl fun a23 h23 => ?_; clear h22
 refine pk0 (v := pt b 1) h23 rfl fun a24 h24 => ?_; clear h23
 have hk25 := hk16.below hb17
 refine pk (v := .int .i64 ep) h24 rfl (rn_load1 rfl rfl Try.isAgg3 (hk25.cell rfl)) fun a26 h26 => ?_; clear h24
 refine pk0 (v := .bool (decide (ep > 0))) h26 rfl fun a27 h27 => ?_; clear h26
 refine pl_nil ?_
 refine co_then ?_
 have hc28 : (decide (ep > 0)) = false := decide_eq_false (by omega)
 rw [hc28] at h27; clear hc28
 refine co_false h27 rfl ?_
 refine wp_skip ?_
 refine co_then ?_
 refine co_seq ?_
 refine co_seq ?_
 refine co_reg ?_
 refine pk (v := pt b 0) h27 rfl (rn_load1 rfl rfl Try.isAgg25 (hk20.cell rfl)) fun a29 h29 => ?_; clear h27
 refine pk0 (v := pt b 0) h29 rfl fun a30 h30 => ?_; clear h29
 refine pk0 (v := pt b 6) h30 rfl fun a31 h31 => ?_; clear h30
 refine pk (v := pv) h31 rfl (rn_load1 rfl rfl Try.isAgg47 (hk25.cell rfl)) fun a32 h32 => ?_; clear h31
 have hr33 := row_kept_new hpn hg4
 have hr34 := row_kept_new hr33 (below_grown hb17)
 refine pk (v := .int .i64 ((pn.length : Nat) : Int)) h32 rfl (rn_lenOwn rfl rfl Try.underlying47 hr34) fun a35 h35 => ?_; clear h32
 refine pk0 (v := .int .i64 0) h35 rfl fun a36 h36 => ?_; clear h35
 refine pl_nil ?_
 refine co_then ?_
 refine wp_block ?_
 have h37 : Slots 79 [(1, pt N3 0), (3, .slice none 0 0), (27, pv), (28, .int .i64 ((pn.length : Nat) : Int)), (29, .int .i64 0)] _ := h36.sub ⟨rfl, rfl, rfl, rfl, rfl, trivial⟩; clear h36
 refine co_loop (fun mm a x => ∃ (i : Nat) (un : Value), Slots 79 [(1, pt N3 0), (3, un), (27, pv), (28, .int .i64 ((pn.length : Nat) : Int)), (29, .int .i64 ((i : Nat) : Int))] a ∧ mm = pn.length - i ∧ (i ≤ pn.length) ∧ x.ownsRow w.heap.size 44 18 un (([] : List NoteX) ++ (pn.take i).map xPn).length ((([] : List NoteX) ++ (pn.take i).map xPn).flatMap noteE) ∧ x.ownsRow 0 40 3 pv pn.length (pn.flatMap pinE) ∧ x.ownsRow 0 3 1 lgv lg.length (lg.flatMap (intE .i64)) ∧ x.ownsRow 0 102 2 cv ms.length (ms.flatMap memE) ∧ Below w.heap.size w x ∧ Blk x b 66 #[.bool true, .int .i64 ep, cv, .int .u64 fl, lgv, .int .u64 hz, pv, .int .i64 tp, .bool x0.1, .int .i64 x0.2.1, .int .i64 x0.2.2.1, .int .i64 x0.2.2.2.1, .int .i64 x0.2.2.2.2, .bool x1.1, .int .i64 x1.2.1, .int .i64 x1.2.2.1, .int .i64 x1.2.2.2.1, .int .i64 x1.2.2.2.2, .bool x2.1, .int .i64 x2.2.1, .int .i64 x2.2.2.1, .int .i64 x2.2.2.2.1, .int .i64 x2.2.2.2.2] ∧ Blk x N3 25 #[pt b 0]) (pn.length - 0) ?_ ?_
 have hr38 := row_kept_new hlgr hg4
 have hr39 := row_kept_new hr38 (below_grown hb17)
 have hr40 := row_kept_new hcvr hg4
 have hr41 := row_kept_new hr40 (below_grown hb17)
 have hB42 := hb_new hB0 hg4
 have hB43 := hb_call hB42 hb17
 · exact ⟨0, (.slice none 0 0), h37.sub ⟨rfl, rfl, rfl, rfl, (slot_eq rfl (congrArg (Value.int .i64) (by first | rfl | omega))), trivial⟩, rfl, by omega, (row_eq (row_nilL _ _ _ _ _) (by simp)), hr34, hr39, hr41, hB43, hk25, hk20⟩
 · rintro k44 a45 w46 ⟨i, un, h45, rfl, hi47, hf48, hf49, hf50, hf51, hB52, hk53, hk54⟩
   have hz55 := hB52.size
   have hl56 := hk53.lt
   have hl57 := hk54.lt
   have hpl9 : (([] : List NoteX) ++ (pn.take i).map xPn).length ≤ 4 := preX_len _ (by simp) (by assumption)
   refine co_seq ?_
   refine co_reg ?_
   refine pk0 (v := .bool (decide (((i : Nat) : Int) < ((pn.length : Nat) : Int)))) h45 rfl fun a58 h58 => ?_; clear h45
   refine pl_nil ?_
   refine co_then ?_
   refine co_seq ?_
   cases hc59 : (decide (((i : Nat) : Int) < ((pn.length : Nat) : Int)))
   ·
    rw [hc59] at h58
    have hp60 : ¬ (((i : Nat) : Int) < ((pn.length : Nat) : Int)) := of_decide_eq_false hc59
    clear hc59
    refine co_false h58 rfl ?_
    refine wp_exit ?_
    refine co_thenX ?_
    refine co_thenX ?_
    refine co_blockX ?_
    refine co_then ?_
    refine co_cut (fun a x => ∃ (uc : Value), Slots 79 [(1, pt N3 0), (3, uc)] a ∧ x.ownsRow w.heap.size 44 18 uc (([] : List NoteX) ++ pn.map xPn ++ unX pn tp).length ((([] : List NoteX) ++ pn.map xPn ++ unX pn tp).flatMap noteE) ∧ Blk x N3 25 #[pt b 0] ∧ Blk x b 66 #[.bool true, .int .i64 ep, cv, .int .u64 fl, lgv, .int .u64 hz, pv, .int .i64 tp, .bool x0.1, .int .i64 x0.2.1, .int .i64 x0.2.2.1, .int .i64 x0.2.2.2.1, .int .i64 x0.2.2.2.2, .bool x1.1, .int .i64 x1.2.1, .int .i64 x1.2.2.1, .int .i64 x1.2.2.2.1, .int .i64 x1.2.2.2.2, .bool x2.1, .int .i64 x2.2.1, .int .i64 x2.2.2.1, .int .i64 x2.2.2.2.1, .int .i64 x2.2.2.2.2] ∧ Below w.heap.size w x) ?_ ?_
    ·
     refine co_seq ?_
     refine co_reg ?_
     refine pk (v := pt b 0) h58 rfl (rn_load1 rfl rfl Try.isAgg25 (hk54.cell rfl)) fun a61 h61 => ?_; clear h58
     refine pk0 (v := pt b 0) h61 rfl fun a62 h62 => ?_; clear h61
     refine pk0 (v := pt b 6) h62 rfl fun a63 h63 => ?_; clear h62
     refine pk (v := pv) h63 rfl (rn_load1 rfl rfl Try.isAgg47 (hk53.cell rfl)) fun a64 h64 => ?_; clear h63
     refine pk0 (v := .func (.func 26) #[] #[pt N3 0]) h64 rfl fun a65 h65 => ?_; clear h64
     refine pw h65 rfl (op_call (args := #[pv, .func (.func 26) #[] #[pt N3 0]]) (R := fun res xw => res = .bool (pn.any (fun p => p.1 == tp)) ∧ Below w46.heap.size w46 xw) rfl rfl rfl (by kernel_rfl) (by kernel_rfl) (Try.call25 _ _) (containsP_any pv pn N3 b ep cv fl lgv hz pv tp x0 x1 x2 w46 (row_sl hf49 pinE_len) hk54 hk53) (by rintro e x ⟨rfl, hb68⟩; exact ⟨_, rfl, ⟨rfl, hb68⟩⟩)) ?_; clear h65
     rintro _ w67 a66 ⟨rfl, hb68⟩ h66
     have hz69 := hb68.size
     have hB71 := hb_call hB52 hb68
     cases hc70 : (pn.any (fun p => p.1 == tp))
     ·
      rw [hc70] at h66
      refine pk0 (v := .bool true) h66 rfl fun a72 h72 => ?_; clear h66
      refine pl_nil ?_
      refine co_then ?_
      refine co_true h72 rfl ?_
      refine co_reg ?_
      refine pk0 (v := un) h72 rfl fun a73 h73 => ?_; clear h72
      have hk74 := hk54.below hb68
      refine pk (v := pt b 0) h73 rfl (rn_load1 rfl rfl Try.isAgg25 (hk74.cell rfl)) fun a75 h75 => ?_; clear h73
      refine pk0 (v := pt b 0) h75 rfl fun a76 h76 => ?_; clear h75
      refine pk0 (v := pt b 7) h76 rfl fun a77 h77 => ?_; clear h76
      have hk78 := hk53.below hb68
      refine pk (v := .int .i64 tp) h77 rfl (rn_load1 rfl rfl Try.isAgg3 (hk78.cell rfl)) fun a79 h79 => ?_; clear h77
      refine pk0 (v := .agg #[.int .i64 7, .int .i64 tp, .int .u64 0, .int .i64 0, .slice none 0 0, .int .u64 0, .slice none 0 0, .int .i64 0, .int .i64 0, .slice none 0 0, .int .u64 0, .int .i64 0, .int .u64 0, .int .i64 0, .int .i64 0, .int .i64 0, .int .i64 0, .int .i64 0]) h79 rfl fun a80 h80 => ?_; clear h79
      refine pw h80 rfl (op_new (v := fun N => .slice (some ⟨N, 0, none⟩) 1 1) (T := 44) (cs := #[.int .i64 7, .int .i64 tp, .int .u64 0, .int .i64 0, .slice none 0 0, .int .u64 0, .slice none 0 0, .int .i64 0, .int .i64 0, .slice none 0 0, .int .u64 0, .int .i64 0, .int .u64 0, .int .i64 0, .int .i64 0, .int .i64 0, .int .i64 0, .int .i64 0]) (by kernel_rfl) (by kernel_rfl) (by kernel_rfl)) ?_; clear h80
      rintro _ w82 a81 ⟨N83, rfl, hN86, hz87, hk85, hg84⟩ h81
      have hr89 := row_kept_new hf48 (below_grown hb68)
      have ha88 := row_fresh hr89 hN86
      have hr91 := row_kept_new hf49 (below_grown hb68)
      have ha90 := row_fresh hr91 hN86
      have hr93 := row_kept_new hf50 (below_grown hb68)
      have ha92 := row_fresh hr93 hN86
      have hr95 := row_kept_new hf51 (below_grown hb68)
      have ha94 := row_fresh hr95 hN86
      have hz96 := hg84.size
      try dsimp only at h81
      have hr103 := row_kept_new hr89 hg84
      refine pw h81 rfl (op_append rfl w.heap.size 44 (z := .agg #[.int .i64 0, .int .i64 0, .int .u64 0, .int .i64 0, .slice none 0 0, .int .u64 0, .slice none 0 0, .int .i64 0, .int .i64 0, .slice none 0 0, .int .u64 0, .int .i64 0, .int .u64 0, .int .i64 0, .int .i64 0, .int .i64 0, .int .i64 0, .int .i64 0]) (size := 18) (bytes := 192) Try.underlying22 (by kernel_rfl) rfl rfl rfl hr103 rfl hk85 rfl (by kernel_rfl) (by have hux := unX_len pn tp; first | omega | (simp only [List.length_nil, List.length_append, List.length_cons, List.length_map]; omega)) (by have hux := unX_len pn tp; first | omega | (simp only [List.length_nil, List.length_append, List.length_cons, List.length_map]; omega)) (by omega)) ?_; clear h81
      rintro v99 w98 a97 ⟨hr100, hg101⟩ h97
      have hr100' : w98.ownsRow w.heap.size 44 18 v99 ((([] : List NoteX) ++ (pn.take i).map xPn ++ [(xUn tp)]).length) ((([] : List NoteX) ++ (pn.take i).map xPn ++ [(xUn tp)]).flatMap noteE) := row_push (y := (xUn tp)) hr100 rfl rfl; clear hr100
      have hz104 := hg101.size
      have hk105 := hk78.kept hg84 (by simp)
      refine pk0 (v := v99) h97 rfl fun a106 h106 => ?_; clear h97
      refine pl_nil ?_
      refine co_then ?_
      have hk107 := hk74.kept hg84 (by simp)
      have hk108 := hk107.kept hg101 (own_neT hr103 hk107 (by decide))
      have hk109 := hk105.kept hg101 (own_neT hr103 hk105 (by decide))
      have hB110 := hb_new hB71 hg84
      have hB111 := hb_row hB110 hr103 (by omega) hg101
      exact ⟨v99, h106.sub ⟨rfl, rfl, trivial⟩, (row_eq hr100' (by rw [List.take_of_length_le (by omega), unX_n (by assumption)])), hk108, hk109, hB111⟩
     ·
      rw [hc70] at h66
      refine pk0 (v := .bool false) h66 rfl fun a112 h112 => ?_; clear h66
      refine pl_nil ?_
      refine co_then ?_
      refine co_false h112 rfl ?_
      refine wp_skip ?_
      refine co_then ?_
      have hr113 := row_kept_new hf48 (below_grown hb68)
      have hk114 := hk54.below hb68
      have hk115 := hk53.below hb68
      exact ⟨un, h112.sub ⟨rfl, rfl, trivial⟩, (row_eq hr113 (by rw [List.take_of_length_le (by omega), unX_y (by assumption), List.append_nil])), hk114, hk115, hB71⟩
    rintro a116 w117 ⟨uc, h116, hf118, hf119, hf120, hB121⟩
    have hz122 := hB121.size
    have hl123 := hf119.lt
    have hl124 := hf120.lt
    refine co_seq ?_
    refine co_reg ?_
    refine pk0 (v := uc) h116 rfl fun a125 h125 => ?_; clear h116
    refine pk (v := pt b 0) h125 rfl (rn_load1 rfl rfl Try.isAgg25 (hf119.cell rfl)) fun a126 h126 => ?_; clear h125
    refine pk0 (v := pt b 0) h126 rfl fun a127 h127 => ?_; clear h126
    refine pk0 (v := pt b 5) h127 rfl fun a128 h128 => ?_; clear h127
    refine pk (v := .int .u64 hz) h128 rfl (rn_load1 rfl rfl Try.isAgg29 (hf120.cell rfl)) fun a129 h129 => ?_; clear h128
    refine pk0 (v := .agg #[.int .i64 4, .int .i64 0, .int .u64 hz, .int .i64 0, .slice none 0 0, .int .u64 0, .slice none 0 0, .int .i64 0, .int .i64 0, .slice none 0 0, .int .u64 0, .int .i64 0, .int .u64 0, .int .i64 0, .int .i64 0, .int .i64 0, .int .i64 0, .int .i64 0]) h129 rfl fun a130 h130 => ?_; clear h129
    refine pw h130 rfl (op_new (v := fun N => .slice (some ⟨N, 0, none⟩) 1 1) (T := 44) (cs := #[.int .i64 4, .int .i64 0, .int .u64 hz, .int .i64 0, .slice none 0 0, .int .u64 0, .slice none 0 0, .int .i64 0, .int .i64 0, .slice none 0 0, .int .u64 0, .int .i64 0, .int .u64 0, .int .i64 0, .int .i64 0, .int .i64 0, .int .i64 0, .int .i64 0]) (by kernel_rfl) (by kernel_rfl) (by kernel_rfl)) ?_; clear h130
    rintro _ w132 a131 ⟨N133, rfl, hN136, hz137, hk135, hg134⟩ h131
    have ha138 := row_fresh hf118 hN136
    have hz139 := hg134.size
    try dsimp only at h131
    have hr146 := row_kept_new hf118 hg134
    refine pw h131 rfl (op_append rfl w.heap.size 44 (z := .agg #[.int .i64 0, .int .i64 0, .int .u64 0, .int .i64 0, .slice none 0 0, .int .u64 0, .slice none 0 0, .int .i64 0, .int .i64 0, .slice none 0 0, .int .u64 0, .int .i64 0, .int .u64 0, .int .i64 0, .int .i64 0, .int .i64 0, .int .i64 0, .int .i64 0]) (size := 18) (bytes := 192) Try.underlying22 (by kernel_rfl) rfl rfl rfl hr146 rfl hk135 rfl (by kernel_rfl) (by have hux := unX_len pn tp; first | omega | (simp only [List.length_nil, List.length_append, List.length_cons, List.length_map]; omega)) (by have hux := unX_len pn tp; first | omega | (simp only [List.length_nil, List.length_append, List.length_cons, List.length_map]; omega)) (by omega)) ?_; clear h131
    rintro v142 w141 a140 ⟨hr143, hg144⟩ h140
    have hr143' : w141.ownsRow w.heap.size 44 18 v142 ((([] : List NoteX) ++ pn.map xPn ++ unX pn tp ++ [(xHz hz)]).length) ((([] : List NoteX) ++ pn.map xPn ++ unX pn tp ++ [(xHz hz)]).flatMap noteE) := row_push (y := (xHz hz)) hr143 rfl rfl; clear hr143
    have hz147 := hg144.size
    have hk148 := hf120.kept hg134 (by simp)
    refine pk0 (v := v142) h140 rfl fun a149 h149 => ?_; clear h140
    refine pl_nil ?_
    refine co_then ?_
    refine co_seq ?_
    refine co_seq ?_
    refine co_reg ?_
    have hk150 := hf119.kept hg134 (by simp)
    have hk151 := hk150.kept hg144 (own_neT hr146 hk150 (by decide))
    refine pk (v := pt b 0) h149 rfl (rn_load1 rfl rfl Try.isAgg25 (hk151.cell rfl)) fun a152 h152 => ?_; clear h149
    refine pk0 (v := pt b 0) h152 rfl fun a153 h153 => ?_; clear h152
    refine pk0 (v := pt b 8) h153 rfl fun a154 h154 => ?_; clear h153
    have hk155 := hk148.kept hg144 (own_neT hr146 hk148 (by decide))
    refine pk (v := .agg #[.bool x0.1, .int .i64 x0.2.1, .int .i64 x0.2.2.1, .int .i64 x0.2.2.2.1, .int .i64 x0.2.2.2.2, .bool x1.1, .int .i64 x1.2.1, .int .i64 x1.2.2.1, .int .i64 x1.2.2.2.1, .int .i64 x1.2.2.2.2, .bool x2.1, .int .i64 x2.2.1, .int .i64 x2.2.2.1, .int .i64 x2.2.2.2.1, .int .i64 x2.2.2.2.2]) h154 rfl (rn_loadN rfl rfl Try.underlying64 rfl (by kernel_rfl) (blk_part hk155 8 (by rfl))) fun a156 h156 => ?_; clear h154
    refine pk0 (v := .int .i64 0) h156 rfl fun a157 h157 => ?_; clear h156
    refine pl_nil ?_
    refine co_then ?_
    refine wp_block ?_
    refine wp_loop_rounds 4 ?_
    refine co_unroll (n := 3) ?_
    refine co_seq ?_
    refine co_reg ?_
    refine pk0 (v := .bool (decide (0 < 3))) h157 rfl fun a158 h158 => ?_; clear h157
    refine pl_nil ?_
    refine co_then ?_
    refine co_seq ?_
    have hc159 : (decide (0 < 3)) = true := decide_eq_true (by omega)
    rw [hc159] at h158; clear hc159
    refine co_true h158 rfl ?_
    refine wp_skip ?_
    refine co_then ?_
    refine co_seq ?_
    refine wp_block ?_
    refine co_seq ?_
    refine co_reg ?_
    refine pk0 (v := .agg #[.bool x0.1, .int .i64 x0.2.1, .int .i64 x0.2.2.1, .int .i64 x0.2.2.2.1, .int .i64 x0.2.2.2.2]) h158 rfl fun a160 h160 => ?_; clear h158
    refine pw h160 rfl (op_new (v := fun N => pt N 0) (T := 63) (cs := #[.bool false, .int .i64 0, .int .i64 0, .int .i64 0, .int .i64 0]) (by kernel_rfl) (by kernel_rfl) (by kernel_rfl)) ?_; clear h160
    rintro _ w162 a161 ⟨N163, rfl, hN166, hz167, hk165, hg164⟩ h161
    have ha168 := row_fresh hr143' hN166
    have hz169 := hg164.size
    try dsimp only at h161
    refine pwD h161 rfl (op_storeN rfl rfl rfl (by kernel_rfl) (by kernel_rfl) hk165 rfl) ?_; clear h161
    rintro _ w171 a170 ⟨hk172, hz173, hg174⟩ h170
    have hk172' : Blk w171 N163 63 #[.bool x0.1, .int .i64 x0.2.1, .int .i64 x0.2.2.1, .int .i64 x0.2.2.2.1, .int .i64 x0.2.2.2.2] := hk172; clear hk172
    have hz175 := hg174.size
    refine pl_nil ?_
    refine co_then ?_
    refine co_seq ?_
    refine co_reg ?_
    refine pk0 (v := pt N163 0) h170 rfl fun a176 h176 => ?_; clear h170
    refine pk (v := .bool x0.1) h176 rfl (rn_load1 rfl rfl Try.isAgg4 (hk172'.cell rfl)) fun a177 h177 => ?_; clear h176
    refine pl_nil ?_
    refine co_then ?_
    have hB179 := hb_new hB121 hg134
    have hB180 := hb_row hB179 hr146 (by omega) hg144
    have hB181 := hb_new hB180 hg164
    have hB182 := hb_at hB181 hg174 (by omega)
    have hk183 := hk151.kept hg164 (by simp)
    have hk184 := hk183.kept hg174 (by simp; omega)
    have hk185 := hk155.kept hg164 (by simp)
    have hk186 := hk185.kept hg174 (by simp; omega)
    have hk187 := hk135.kept hg144 (ha138)
    have hk188 := hk187.kept hg164 (by simp)
    have hk189 := hk188.kept hg174 (by simp; omega)
    have hr190 := row_kept_new hr143' hg164
    have hr191 := row_kept_at hr190 hg174 (ha168)
    cases hc178 : (x0.1)
    ·
     rw [hc178] at h177
     refine co_false h177 rfl ?_
     refine wp_skip ?_
     refine co_blockN ?_
     refine co_then ?_
     refine co_reg ?_
     refine pk0 (v := .int .i64 1) h177 rfl fun a192 h192 => ?_; clear h177
     refine pk0 (v := .int .i64 1) h192 rfl fun a193 h193 => ?_; clear h192
     refine pl_nil ?_
     refine co_then ?_
     refine co_unroll (n := 2) ?_
     refine co_seq ?_
     refine co_reg ?_
     refine pk0 (v := .bool (decide (1 < 3))) h193 rfl fun a194 h194 => ?_; clear h193
     refine pl_nil ?_
     refine co_then ?_
     refine co_seq ?_
     have hc195 : (decide (1 < 3)) = true := decide_eq_true (by omega)
     rw [hc195] at h194; clear hc195
     refine co_true h194 rfl ?_
     refine wp_skip ?_
     refine co_then ?_
     refine co_seq ?_
     refine wp_block ?_
     refine co_seq ?_
     refine co_reg ?_
     refine pk0 (v := .agg #[.bool x1.1, .int .i64 x1.2.1, .int .i64 x1.2.2.1, .int .i64 x1.2.2.2.1, .int .i64 x1.2.2.2.2]) h194 rfl fun a196 h196 => ?_; clear h194
     refine pw h196 rfl (op_new (v := fun N => pt N 0) (T := 63) (cs := #[.bool false, .int .i64 0, .int .i64 0, .int .i64 0, .int .i64 0]) (by kernel_rfl) (by kernel_rfl) (by kernel_rfl)) ?_; clear h196
     rintro _ w198 a197 ⟨N199, rfl, hN202, hz203, hk201, hg200⟩ h197
     have ha204 := row_fresh hr191 hN202
     have hz205 := hg200.size
     try dsimp only at h197
     refine pwD h197 rfl (op_storeN rfl rfl rfl (by kernel_rfl) (by kernel_rfl) hk201 rfl) ?_; clear h197
     rintro _ w207 a206 ⟨hk208, hz209, hg210⟩ h206
     have hk208' : Blk w207 N199 63 #[.bool x1.1, .int .i64 x1.2.1, .int .i64 x1.2.2.1, .int .i64 x1.2.2.2.1, .int .i64 x1.2.2.2.2] := hk208; clear hk208
     have hz211 := hg210.size
     refine pl_nil ?_
     refine co_then ?_
     refine co_seq ?_
     refine co_reg ?_
     refine pk0 (v := pt N199 0) h206 rfl fun a212 h212 => ?_; clear h206
     refine pk (v := .bool x1.1) h212 rfl (rn_load1 rfl rfl Try.isAgg4 (hk208'.cell rfl)) fun a213 h213 => ?_; clear h212
     refine pl_nil ?_
     refine co_then ?_
     have hB215 := hb_new hB182 hg200
     have hB216 := hb_at hB215 hg210 (by omega)
     have hk217 := hk184.kept hg200 (by simp)
     have hk218 := hk217.kept hg210 (by simp; omega)
     have hk219 := hk186.kept hg200 (by simp)
     have hk220 := hk219.kept hg210 (by simp; omega)
     have hk221 := hk189.kept hg200 (by simp)
     have hk222 := hk221.kept hg210 (by simp; omega)
     have hr223 := row_kept_new hr191 hg200
     have hr224 := row_kept_at hr223 hg210 (ha204)
     have hk225 := hk172'.kept hg200 (by simp)
     have hk226 := hk225.kept hg210 (by simp; omega)
     cases hc214 : (x1.1)
     ·
      rw [hc214] at h213
      refine co_false h213 rfl ?_
      refine wp_skip ?_
      refine co_blockN ?_
      refine co_then ?_
      refine co_reg ?_
      refine pk0 (v := .int .i64 2) h213 rfl fun a227 h227 => ?_; clear h213
      refine pk0 (v := .int .i64 2) h227 rfl fun a228 h228 => ?_; clear h227
      refine pl_nil ?_
      refine co_then ?_
      refine co_unroll (n := 1) ?_
      refine co_seq ?_
      refine co_reg ?_
      refine pk0 (v := .bool (decide (2 < 3))) h228 rfl fun a229 h229 => ?_; clear h228
      refine pl_nil ?_
      refine co_then ?_
      refine co_seq ?_
      have hc230 : (decide (2 < 3)) = true := decide_eq_true (by omega)
      rw [hc230] at h229; clear hc230
      refine co_true h229 rfl ?_
      refine wp_skip ?_
      refine co_then ?_
      refine co_seq ?_
      refine wp_block ?_
      refine co_seq ?_
      refine co_reg ?_
      refine pk0 (v := .agg #[.bool x2.1, .int .i64 x2.2.1, .int .i64 x2.2.2.1, .int .i64 x2.2.2.2.1, .int .i64 x2.2.2.2.2]) h229 rfl fun a231 h231 => ?_; clear h229
      refine pw h231 rfl (op_new (v := fun N => pt N 0) (T := 63) (cs := #[.bool false, .int .i64 0, .int .i64 0, .int .i64 0, .int .i64 0]) (by kernel_rfl) (by kernel_rfl) (by kernel_rfl)) ?_; clear h231
      rintro _ w233 a232 ⟨N234, rfl, hN237, hz238, hk236, hg235⟩ h232
      have ha239 := row_fresh hr224 hN237
      have hz240 := hg235.size
      try dsimp only at h232
      refine pwD h232 rfl (op_storeN rfl rfl rfl (by kernel_rfl) (by kernel_rfl) hk236 rfl) ?_; clear h232
      rintro _ w242 a241 ⟨hk243, hz244, hg245⟩ h241
      have hk243' : Blk w242 N234 63 #[.bool x2.1, .int .i64 x2.2.1, .int .i64 x2.2.2.1, .int .i64 x2.2.2.2.1, .int .i64 x2.2.2.2.2] := hk243; clear hk243
      have hz246 := hg245.size
      refine pl_nil ?_
      refine co_then ?_
      refine co_seq ?_
      refine co_reg ?_
      refine pk0 (v := pt N234 0) h241 rfl fun a247 h247 => ?_; clear h241
      refine pk (v := .bool x2.1) h247 rfl (rn_load1 rfl rfl Try.isAgg4 (hk243'.cell rfl)) fun a248 h248 => ?_; clear h247
      refine pl_nil ?_
      refine co_then ?_
      have hB250 := hb_new hB216 hg235
      have hB251 := hb_at hB250 hg245 (by omega)
      have hk252 := hk218.kept hg235 (by simp)
      have hk253 := hk252.kept hg245 (by simp; omega)
      have hk254 := hk220.kept hg235 (by simp)
      have hk255 := hk254.kept hg245 (by simp; omega)
      have hk256 := hk222.kept hg235 (by simp)
      have hk257 := hk256.kept hg245 (by simp; omega)
      have hr258 := row_kept_new hr224 hg235
      have hr259 := row_kept_at hr258 hg245 (ha239)
      have hk260 := hk226.kept hg235 (by simp)
      have hk261 := hk260.kept hg245 (by simp; omega)
      have hk262 := hk208'.kept hg235 (by simp)
      have hk263 := hk262.kept hg245 (by simp; omega)
      cases hc249 : (x2.1)
      ·
       rw [hc249] at h248
       refine co_false h248 rfl ?_
       refine wp_skip ?_
       refine co_blockN ?_
       refine co_then ?_
       refine co_reg ?_
       refine pk0 (v := .int .i64 3) h248 rfl fun a264 h264 => ?_; clear h248
       refine pk0 (v := .int .i64 3) h264 rfl fun a265 h265 => ?_; clear h264
       refine pl_nil ?_
       refine co_then ?_
       refine co_unroll (n := 0) ?_
       refine co_seq ?_
       refine co_reg ?_
       refine pk0 (v := .bool (decide (3 < 3))) h265 rfl fun a266 h266 => ?_; clear h265
       refine pl_nil ?_
       refine co_then ?_
       refine co_seq ?_
       have hc267 : (decide (3 < 3)) = false := decide_eq_false (by omega)
       rw [hc267] at h266; clear hc267
       refine co_false h266 rfl ?_
       refine wp_exit ?_
       refine co_thenX ?_
       refine co_thenX ?_
       refine co_blockX ?_
       refine co_then ?_
       refine co_seq ?_
       refine co_reg ?_
       refine pk0 (v := v142) h266 rfl fun a268 h268 => ?_; clear h266
       refine pk0 (v := v142) h268 rfl fun a269 h269 => ?_; clear h268
       refine pl_nil ?_
       refine co_then ?_
       refine wp_ret ?_
       refine co_ret1 h269 rfl rfl ?_
       exact ⟨_, rfl, (row_eq hr259 (by rw [sdX_n (x := x0) (by assumption), sdX_n (x := x1) (by assumption), sdX_n (x := x2) (by assumption)] <;> simp only [List.append_assoc, List.append_nil, List.nil_append])), hB251⟩
      ·
       rw [hc249] at h248
       refine co_true h248 rfl ?_
       refine co_reg ?_
       refine pk0 (v := v142) h248 rfl fun a270 h270 => ?_; clear h248
       refine pk0 (v := pt N234 1) h270 rfl fun a271 h271 => ?_; clear h270
       refine pk (v := .agg #[.int .i64 x2.2.1, .int .i64 x2.2.2.1, .int .i64 x2.2.2.2.1, .int .i64 x2.2.2.2.2]) h271 rfl (rn_loadN rfl rfl Try.underlying42 rfl (by kernel_rfl) (blk_part hk243' 1 (by rfl))) fun a272 h272 => ?_; clear h271
       refine pk0 (v := .agg #[.int .i64 8, .int .i64 0, .int .u64 0, .int .i64 0, .slice none 0 0, .int .u64 0, .slice none 0 0, .int .i64 0, .int .i64 0, .slice none 0 0, .int .u64 0, .int .i64 0, .int .u64 0, .int .i64 0, .int .i64 x2.2.1, .int .i64 x2.2.2.1, .int .i64 x2.2.2.2.1, .int .i64 x2.2.2.2.2]) h272 rfl fun a273 h273 => ?_; clear h272
       refine pw h273 rfl (op_new (v := fun N => .slice (some ⟨N, 0, none⟩) 1 1) (T := 44) (cs := #[.int .i64 8, .int .i64 0, .int .u64 0, .int .i64 0, .slice none 0 0, .int .u64 0, .slice none 0 0, .int .i64 0, .int .i64 0, .slice none 0 0, .int .u64 0, .int .i64 0, .int .u64 0, .int .i64 0, .int .i64 x2.2.1, .int .i64 x2.2.2.1, .int .i64 x2.2.2.2.1, .int .i64 x2.2.2.2.2]) (by kernel_rfl) (by kernel_rfl) (by kernel_rfl)) ?_; clear h273
       rintro _ w275 a274 ⟨N276, rfl, hN279, hz280, hk278, hg277⟩ h274
       have ha281 := row_fresh hr259 hN279
       have hz282 := hg277.size
       try dsimp only at h274
       have hr289 := row_kept_new hr259 hg277
       refine pw h274 rfl (op_append rfl w.heap.size 44 (z := .agg #[.int .i64 0, .int .i64 0, .int .u64 0, .int .i64 0, .slice none 0 0, .int .u64 0, .slice none 0 0, .int .i64 0, .int .i64 0, .slice none 0 0, .int .u64 0, .int .i64 0, .int .u64 0, .int .i64 0, .int .i64 0, .int .i64 0, .int .i64 0, .int .i64 0]) (size := 18) (bytes := 192) Try.underlying22 (by kernel_rfl) rfl rfl rfl hr289 rfl hk278 rfl (by kernel_rfl) (by have hux := unX_len pn tp; first | omega | (simp only [List.length_nil, List.length_append, List.length_cons, List.length_map]; omega)) (by have hux := unX_len pn tp; first | omega | (simp only [List.length_nil, List.length_append, List.length_cons, List.length_map]; omega)) (by omega)) ?_; clear h274
       rintro v285 w284 a283 ⟨hr286, hg287⟩ h283
       have hr286' : w284.ownsRow w.heap.size 44 18 v285 ((([] : List NoteX) ++ pn.map xPn ++ unX pn tp ++ [(xHz hz)] ++ [(xSd x2)]).length) ((([] : List NoteX) ++ pn.map xPn ++ unX pn tp ++ [(xHz hz)] ++ [(xSd x2)]).flatMap noteE) := row_push (y := (xSd x2)) hr286 rfl rfl; clear hr286
       have hz290 := hg287.size
       have hk291 := hk255.kept hg277 (by simp)
       refine pk0 (v := v285) h283 rfl fun a292 h292 => ?_; clear h283
       refine pl_nil ?_
       refine co_blockN ?_
       refine co_then ?_
       refine co_reg ?_
       refine pk0 (v := .int .i64 3) h292 rfl fun a293 h293 => ?_; clear h292
       refine pk0 (v := .int .i64 3) h293 rfl fun a294 h294 => ?_; clear h293
       refine pl_nil ?_
       refine co_then ?_
       refine co_unroll (n := 0) ?_
       refine co_seq ?_
       refine co_reg ?_
       refine pk0 (v := .bool (decide (3 < 3))) h294 rfl fun a295 h295 => ?_; clear h294
       refine pl_nil ?_
       refine co_then ?_
       refine co_seq ?_
       have hc296 : (decide (3 < 3)) = false := decide_eq_false (by omega)
       rw [hc296] at h295; clear hc296
       refine co_false h295 rfl ?_
       refine wp_exit ?_
       refine co_thenX ?_
       refine co_thenX ?_
       refine co_blockX ?_
       refine co_then ?_
       refine co_seq ?_
       refine co_reg ?_
       refine pk0 (v := v285) h295 rfl fun a297 h297 => ?_; clear h295
       refine pk0 (v := v285) h297 rfl fun a298 h298 => ?_; clear h297
       refine pl_nil ?_
       refine co_then ?_
       refine wp_ret ?_
       refine co_ret1 h298 rfl rfl ?_
       have hB299 := hb_new hB251 hg277
       have hB300 := hb_row hB299 hr289 (by omega) hg287
       exact ⟨_, rfl, (row_eq hr286' (by rw [sdX_n (x := x0) (by assumption), sdX_n (x := x1) (by assumption), sdX_y (x := x2) (by assumption)] <;> simp only [List.append_assoc, List.append_nil, List.nil_append])), hB300⟩
     ·
      rw [hc214] at h213
      refine co_true h213 rfl ?_
      refine co_reg ?_
      refine pk0 (v := v142) h213 rfl fun a301 h301 => ?_; clear h213
      refine pk0 (v := pt N199 1) h301 rfl fun a302 h302 => ?_; clear h301
      refine pk (v := .agg #[.int .i64 x1.2.1, .int .i64 x1.2.2.1, .int .i64 x1.2.2.2.1, .int .i64 x1.2.2.2.2]) h302 rfl (rn_loadN rfl rfl Try.underlying42 rfl (by kernel_rfl) (blk_part hk208' 1 (by rfl))) fun a303 h303 => ?_; clear h302
      refine pk0 (v := .agg #[.int .i64 8, .int .i64 0, .int .u64 0, .int .i64 0, .slice none 0 0, .int .u64 0, .slice none 0 0, .int .i64 0, .int .i64 0, .slice none 0 0, .int .u64 0, .int .i64 0, .int .u64 0, .int .i64 0, .int .i64 x1.2.1, .int .i64 x1.2.2.1, .int .i64 x1.2.2.2.1, .int .i64 x1.2.2.2.2]) h303 rfl fun a304 h304 => ?_; clear h303
      refine pw h304 rfl (op_new (v := fun N => .slice (some ⟨N, 0, none⟩) 1 1) (T := 44) (cs := #[.int .i64 8, .int .i64 0, .int .u64 0, .int .i64 0, .slice none 0 0, .int .u64 0, .slice none 0 0, .int .i64 0, .int .i64 0, .slice none 0 0, .int .u64 0, .int .i64 0, .int .u64 0, .int .i64 0, .int .i64 x1.2.1, .int .i64 x1.2.2.1, .int .i64 x1.2.2.2.1, .int .i64 x1.2.2.2.2]) (by kernel_rfl) (by kernel_rfl) (by kernel_rfl)) ?_; clear h304
      rintro _ w306 a305 ⟨N307, rfl, hN310, hz311, hk309, hg308⟩ h305
      have ha312 := row_fresh hr224 hN310
      have hz313 := hg308.size
      try dsimp only at h305
      have hr320 := row_kept_new hr224 hg308
      refine pw h305 rfl (op_append rfl w.heap.size 44 (z := .agg #[.int .i64 0, .int .i64 0, .int .u64 0, .int .i64 0, .slice none 0 0, .int .u64 0, .slice none 0 0, .int .i64 0, .int .i64 0, .slice none 0 0, .int .u64 0, .int .i64 0, .int .u64 0, .int .i64 0, .int .i64 0, .int .i64 0, .int .i64 0, .int .i64 0]) (size := 18) (bytes := 192) Try.underlying22 (by kernel_rfl) rfl rfl rfl hr320 rfl hk309 rfl (by kernel_rfl) (by have hux := unX_len pn tp; first | omega | (simp only [List.length_nil, List.length_append, List.length_cons, List.length_map]; omega)) (by have hux := unX_len pn tp; first | omega | (simp only [List.length_nil, List.length_append, List.length_cons, List.length_map]; omega)) (by omega)) ?_; clear h305
      rintro v316 w315 a314 ⟨hr317, hg318⟩ h314
      have hr317' : w315.ownsRow w.heap.size 44 18 v316 ((([] : List NoteX) ++ pn.map xPn ++ unX pn tp ++ [(xHz hz)] ++ [(xSd x1)]).length) ((([] : List NoteX) ++ pn.map xPn ++ unX pn tp ++ [(xHz hz)] ++ [(xSd x1)]).flatMap noteE) := row_push (y := (xSd x1)) hr317 rfl rfl; clear hr317
      have hz321 := hg318.size
      have hk322 := hk220.kept hg308 (by simp)
      refine pk0 (v := v316) h314 rfl fun a323 h323 => ?_; clear h314
      refine pl_nil ?_
      refine co_blockN ?_
      refine co_then ?_
      refine co_reg ?_
      refine pk0 (v := .int .i64 2) h323 rfl fun a324 h324 => ?_; clear h323
      refine pk0 (v := .int .i64 2) h324 rfl fun a325 h325 => ?_; clear h324
      refine pl_nil ?_
      refine co_then ?_
      refine co_unroll (n := 1) ?_
      refine co_seq ?_
      refine co_reg ?_
      refine pk0 (v := .bool (decide (2 < 3))) h325 rfl fun a326 h326 => ?_; clear h325
      refine pl_nil ?_
      refine co_then ?_
      refine co_seq ?_
      have hc327 : (decide (2 < 3)) = true := decide_eq_true (by omega)
      rw [hc327] at h326; clear hc327
      refine co_true h326 rfl ?_
      refine wp_skip ?_
      refine co_then ?_
      refine co_seq ?_
      refine wp_block ?_
      refine co_seq ?_
      refine co_reg ?_
      refine pk0 (v := .agg #[.bool x2.1, .int .i64 x2.2.1, .int .i64 x2.2.2.1, .int .i64 x2.2.2.2.1, .int .i64 x2.2.2.2.2]) h326 rfl fun a328 h328 => ?_; clear h326
      refine pw h328 rfl (op_new (v := fun N => pt N 0) (T := 63) (cs := #[.bool false, .int .i64 0, .int .i64 0, .int .i64 0, .int .i64 0]) (by kernel_rfl) (by kernel_rfl) (by kernel_rfl)) ?_; clear h328
      rintro _ w330 a329 ⟨N331, rfl, hN334, hz335, hk333, hg332⟩ h329
      have ha336 := row_fresh hr317' hN334
      have hz337 := hg332.size
      try dsimp only at h329
      refine pwD h329 rfl (op_storeN rfl rfl rfl (by kernel_rfl) (by kernel_rfl) hk333 rfl) ?_; clear h329
      rintro _ w339 a338 ⟨hk340, hz341, hg342⟩ h338
      have hk340' : Blk w339 N331 63 #[.bool x2.1, .int .i64 x2.2.1, .int .i64 x2.2.2.1, .int .i64 x2.2.2.2.1, .int .i64 x2.2.2.2.2] := hk340; clear hk340
      have hz343 := hg342.size
      refine pl_nil ?_
      refine co_then ?_
      refine co_seq ?_
      refine co_reg ?_
      refine pk0 (v := pt N331 0) h338 rfl fun a344 h344 => ?_; clear h338
      refine pk (v := .bool x2.1) h344 rfl (rn_load1 rfl rfl Try.isAgg4 (hk340'.cell rfl)) fun a345 h345 => ?_; clear h344
      refine pl_nil ?_
      refine co_then ?_
      have hB347 := hb_new hB216 hg308
      have hB348 := hb_row hB347 hr320 (by omega) hg318
      have hB349 := hb_new hB348 hg332
      have hB350 := hb_at hB349 hg342 (by omega)
      have hk351 := hk218.kept hg308 (by simp)
      have hk352 := hk351.kept hg318 (own_neT hr320 hk351 (by decide))
      have hk353 := hk352.kept hg332 (by simp)
      have hk354 := hk353.kept hg342 (by simp; omega)
      have hk355 := hk322.kept hg318 (own_neT hr320 hk322 (by decide))
      have hk356 := hk355.kept hg332 (by simp)
      have hk357 := hk356.kept hg342 (by simp; omega)
      have hk358 := hk226.kept hg308 (by simp)
      have hk359 := hk358.kept hg318 (ha168)
      have hk360 := hk359.kept hg332 (by simp)
      have hk361 := hk360.kept hg342 (by simp; omega)
      have hk362 := hk208'.kept hg308 (by simp)
      have hk363 := hk362.kept hg318 (ha204)
      have hk364 := hk363.kept hg332 (by simp)
      have hk365 := hk364.kept hg342 (by simp; omega)
      have hk366 := hk309.kept hg318 (ha312)
      have hk367 := hk366.kept hg332 (by simp)
      have hk368 := hk367.kept hg342 (by simp; omega)
      have hr369 := row_kept_new hr317' hg332
      have hr370 := row_kept_at hr369 hg342 (ha336)
      cases hc346 : (x2.1)
      ·
       rw [hc346] at h345
       refine co_false h345 rfl ?_
       refine wp_skip ?_
       refine co_blockN ?_
       refine co_then ?_
       refine co_reg ?_
       refine pk0 (v := .int .i64 3) h345 rfl fun a371 h371 => ?_; clear h345
       refine pk0 (v := .int .i64 3) h371 rfl fun a372 h372 => ?_; clear h371
       refine pl_nil ?_
       refine co_then ?_
       refine co_unroll (n := 0) ?_
       refine co_seq ?_
       refine co_reg ?_
       refine pk0 (v := .bool (decide (3 < 3))) h372 rfl fun a373 h373 => ?_; clear h372
       refine pl_nil ?_
       refine co_then ?_
       refine co_seq ?_
       have hc374 : (decide (3 < 3)) = false := decide_eq_false (by omega)
       rw [hc374] at h373; clear hc374
       refine co_false h373 rfl ?_
       refine wp_exit ?_
       refine co_thenX ?_
       refine co_thenX ?_
       refine co_blockX ?_
       refine co_then ?_
       refine co_seq ?_
       refine co_reg ?_
       refine pk0 (v := v316) h373 rfl fun a375 h375 => ?_; clear h373
       refine pk0 (v := v316) h375 rfl fun a376 h376 => ?_; clear h375
       refine pl_nil ?_
       refine co_then ?_
       refine wp_ret ?_
       refine co_ret1 h376 rfl rfl ?_
       exact ⟨_, rfl, (row_eq hr370 (by rw [sdX_n (x := x0) (by assumption), sdX_y (x := x1) (by assumption), sdX_n (x := x2) (by assumption)] <;> simp only [List.append_assoc, List.append_nil, List.nil_append])), hB350⟩
      ·
       rw [hc346] at h345
       refine co_true h345 rfl ?_
       refine co_reg ?_
       refine pk0 (v := v316) h345 rfl fun a377 h377 => ?_; clear h345
       refine pk0 (v := pt N331 1) h377 rfl fun a378 h378 => ?_; clear h377
       refine pk (v := .agg #[.int .i64 x2.2.1, .int .i64 x2.2.2.1, .int .i64 x2.2.2.2.1, .int .i64 x2.2.2.2.2]) h378 rfl (rn_loadN rfl rfl Try.underlying42 rfl (by kernel_rfl) (blk_part hk340' 1 (by rfl))) fun a379 h379 => ?_; clear h378
       refine pk0 (v := .agg #[.int .i64 8, .int .i64 0, .int .u64 0, .int .i64 0, .slice none 0 0, .int .u64 0, .slice none 0 0, .int .i64 0, .int .i64 0, .slice none 0 0, .int .u64 0, .int .i64 0, .int .u64 0, .int .i64 0, .int .i64 x2.2.1, .int .i64 x2.2.2.1, .int .i64 x2.2.2.2.1, .int .i64 x2.2.2.2.2]) h379 rfl fun a380 h380 => ?_; clear h379
       refine pw h380 rfl (op_new (v := fun N => .slice (some ⟨N, 0, none⟩) 1 1) (T := 44) (cs := #[.int .i64 8, .int .i64 0, .int .u64 0, .int .i64 0, .slice none 0 0, .int .u64 0, .slice none 0 0, .int .i64 0, .int .i64 0, .slice none 0 0, .int .u64 0, .int .i64 0, .int .u64 0, .int .i64 0, .int .i64 x2.2.1, .int .i64 x2.2.2.1, .int .i64 x2.2.2.2.1, .int .i64 x2.2.2.2.2]) (by kernel_rfl) (by kernel_rfl) (by kernel_rfl)) ?_; clear h380
       rintro _ w382 a381 ⟨N383, rfl, hN386, hz387, hk385, hg384⟩ h381
       have ha388 := row_fresh hr370 hN386
       have hz389 := hg384.size
       try dsimp only at h381
       have hr396 := row_kept_new hr370 hg384
       refine pw h381 rfl (op_append rfl w.heap.size 44 (z := .agg #[.int .i64 0, .int .i64 0, .int .u64 0, .int .i64 0, .slice none 0 0, .int .u64 0, .slice none 0 0, .int .i64 0, .int .i64 0, .slice none 0 0, .int .u64 0, .int .i64 0, .int .u64 0, .int .i64 0, .int .i64 0, .int .i64 0, .int .i64 0, .int .i64 0]) (size := 18) (bytes := 192) Try.underlying22 (by kernel_rfl) rfl rfl rfl hr396 rfl hk385 rfl (by kernel_rfl) (by have hux := unX_len pn tp; first | omega | (simp only [List.length_nil, List.length_append, List.length_cons, List.length_map]; omega)) (by have hux := unX_len pn tp; first | omega | (simp only [List.length_nil, List.length_append, List.length_cons, List.length_map]; omega)) (by omega)) ?_; clear h381
       rintro v392 w391 a390 ⟨hr393, hg394⟩ h390
       have hr393' : w391.ownsRow w.heap.size 44 18 v392 ((([] : List NoteX) ++ pn.map xPn ++ unX pn tp ++ [(xHz hz)] ++ [(xSd x1)] ++ [(xSd x2)]).length) ((([] : List NoteX) ++ pn.map xPn ++ unX pn tp ++ [(xHz hz)] ++ [(xSd x1)] ++ [(xSd x2)]).flatMap noteE) := row_push (y := (xSd x2)) hr393 rfl rfl; clear hr393
       have hz397 := hg394.size
       have hk398 := hk357.kept hg384 (by simp)
       refine pk0 (v := v392) h390 rfl fun a399 h399 => ?_; clear h390
       refine pl_nil ?_
       refine co_blockN ?_
       refine co_then ?_
       refine co_reg ?_
       refine pk0 (v := .int .i64 3) h399 rfl fun a400 h400 => ?_; clear h399
       refine pk0 (v := .int .i64 3) h400 rfl fun a401 h401 => ?_; clear h400
       refine pl_nil ?_
       refine co_then ?_
       refine co_unroll (n := 0) ?_
       refine co_seq ?_
       refine co_reg ?_
       refine pk0 (v := .bool (decide (3 < 3))) h401 rfl fun a402 h402 => ?_; clear h401
       refine pl_nil ?_
       refine co_then ?_
       refine co_seq ?_
       have hc403 : (decide (3 < 3)) = false := decide_eq_false (by omega)
       rw [hc403] at h402; clear hc403
       refine co_false h402 rfl ?_
       refine wp_exit ?_
       refine co_thenX ?_
       refine co_thenX ?_
       refine co_blockX ?_
       refine co_then ?_
       refine co_seq ?_
       refine co_reg ?_
       refine pk0 (v := v392) h402 rfl fun a404 h404 => ?_; clear h402
       refine pk0 (v := v392) h404 rfl fun a405 h405 => ?_; clear h404
       refine pl_nil ?_
       refine co_then ?_
       refine wp_ret ?_
       refine co_ret1 h405 rfl rfl ?_
       have hB406 := hb_new hB350 hg384
       have hB407 := hb_row hB406 hr396 (by omega) hg394
       exact ⟨_, rfl, (row_eq hr393' (by rw [sdX_n (x := x0) (by assumption), sdX_y (x := x1) (by assumption), sdX_y (x := x2) (by assumption)] <;> simp only [List.append_assoc, List.append_nil, List.nil_append])), hB407⟩
    ·
     rw [hc178] at h177
     refine co_true h177 rfl ?_
     refine co_reg ?_
     refine pk0 (v := v142) h177 rfl fun a408 h408 => ?_; clear h177
     refine pk0 (v := pt N163 1) h408 rfl fun a409 h409 => ?_; clear h408
     refine pk (v := .agg #[.int .i64 x0.2.1, .int .i64 x0.2.2.1, .int .i64 x0.2.2.2.1, .int .i64 x0.2.2.2.2]) h409 rfl (rn_loadN rfl rfl Try.underlying42 rfl (by kernel_rfl) (blk_part hk172' 1 (by rfl))) fun a410 h410 => ?_; clear h409
     refine pk0 (v := .agg #[.int .i64 8, .int .i64 0, .int .u64 0, .int .i64 0, .slice none 0 0, .int .u64 0, .slice none 0 0, .int .i64 0, .int .i64 0, .slice none 0 0, .int .u64 0, .int .i64 0, .int .u64 0, .int .i64 0, .int .i64 x0.2.1, .int .i64 x0.2.2.1, .int .i64 x0.2.2.2.1, .int .i64 x0.2.2.2.2]) h410 rfl fun a411 h411 => ?_; clear h410
     refine pw h411 rfl (op_new (v := fun N => .slice (some ⟨N, 0, none⟩) 1 1) (T := 44) (cs := #[.int .i64 8, .int .i64 0, .int .u64 0, .int .i64 0, .slice none 0 0, .int .u64 0, .slice none 0 0, .int .i64 0, .int .i64 0, .slice none 0 0, .int .u64 0, .int .i64 0, .int .u64 0, .int .i64 0, .int .i64 x0.2.1, .int .i64 x0.2.2.1, .int .i64 x0.2.2.2.1, .int .i64 x0.2.2.2.2]) (by kernel_rfl) (by kernel_rfl) (by kernel_rfl)) ?_; clear h411
     rintro _ w413 a412 ⟨N414, rfl, hN417, hz418, hk416, hg415⟩ h412
     have ha419 := row_fresh hr191 hN417
     have hz420 := hg415.size
     try dsimp only at h412
     have hr427 := row_kept_new hr191 hg415
     refine pw h412 rfl (op_append rfl w.heap.size 44 (z := .agg #[.int .i64 0, .int .i64 0, .int .u64 0, .int .i64 0, .slice none 0 0, .int .u64 0, .slice none 0 0, .int .i64 0, .int .i64 0, .slice none 0 0, .int .u64 0, .int .i64 0, .int .u64 0, .int .i64 0, .int .i64 0, .int .i64 0, .int .i64 0, .int .i64 0]) (size := 18) (bytes := 192) Try.underlying22 (by kernel_rfl) rfl rfl rfl hr427 rfl hk416 rfl (by kernel_rfl) (by have hux := unX_len pn tp; first | omega | (simp only [List.length_nil, List.length_append, List.length_cons, List.length_map]; omega)) (by have hux := unX_len pn tp; first | omega | (simp only [List.length_nil, List.length_append, List.length_cons, List.length_map]; omega)) (by omega)) ?_; clear h412
     rintro v423 w422 a421 ⟨hr424, hg425⟩ h421
     have hr424' : w422.ownsRow w.heap.size 44 18 v423 ((([] : List NoteX) ++ pn.map xPn ++ unX pn tp ++ [(xHz hz)] ++ [(xSd x0)]).length) ((([] : List NoteX) ++ pn.map xPn ++ unX pn tp ++ [(xHz hz)] ++ [(xSd x0)]).flatMap noteE) := row_push (y := (xSd x0)) hr424 rfl rfl; clear hr424
     have hz428 := hg425.size
     have hk429 := hk186.kept hg415 (by simp)
     refine pk0 (v := v423) h421 rfl fun a430 h430 => ?_; clear h421
     refine pl_nil ?_
     refine co_blockN ?_
     refine co_then ?_
     refine co_reg ?_
     refine pk0 (v := .int .i64 1) h430 rfl fun a431 h431 => ?_; clear h430
     refine pk0 (v := .int .i64 1) h431 rfl fun a432 h432 => ?_; clear h431
     refine pl_nil ?_
     refine co_then ?_
     refine co_unroll (n := 2) ?_
     refine co_seq ?_
     refine co_reg ?_
     refine pk0 (v := .bool (decide (1 < 3))) h432 rfl fun a433 h433 => ?_; clear h432
     refine pl_nil ?_
     refine co_then ?_
     refine co_seq ?_
     have hc434 : (decide (1 < 3)) = true := decide_eq_true (by omega)
     rw [hc434] at h433; clear hc434
     refine co_true h433 rfl ?_
     refine wp_skip ?_
     refine co_then ?_
     refine co_seq ?_
     refine wp_block ?_
     refine co_seq ?_
     refine co_reg ?_
     refine pk0 (v := .agg #[.bool x1.1, .int .i64 x1.2.1, .int .i64 x1.2.2.1, .int .i64 x1.2.2.2.1, .int .i64 x1.2.2.2.2]) h433 rfl fun a435 h435 => ?_; clear h433
     refine pw h435 rfl (op_new (v := fun N => pt N 0) (T := 63) (cs := #[.bool false, .int .i64 0, .int .i64 0, .int .i64 0, .int .i64 0]) (by kernel_rfl) (by kernel_rfl) (by kernel_rfl)) ?_; clear h435
     rintro _ w437 a436 ⟨N438, rfl, hN441, hz442, hk440, hg439⟩ h436
     have ha443 := row_fresh hr424' hN441
     have hz444 := hg439.size
     try dsimp only at h436
     refine pwD h436 rfl (op_storeN rfl rfl rfl (by kernel_rfl) (by kernel_rfl) hk440 rfl) ?_; clear h436
     rintro _ w446 a445 ⟨hk447, hz448, hg449⟩ h445
     have hk447' : Blk w446 N438 63 #[.bool x1.1, .int .i64 x1.2.1, .int .i64 x1.2.2.1, .int .i64 x1.2.2.2.1, .int .i64 x1.2.2.2.2] := hk447; clear hk447
     have hz450 := hg449.size
     refine pl_nil ?_
     refine co_then ?_
     refine co_seq ?_
     refine co_reg ?_
     refine pk0 (v := pt N438 0) h445 rfl fun a451 h451 => ?_; clear h445
     refine pk (v := .bool x1.1) h451 rfl (rn_load1 rfl rfl Try.isAgg4 (hk447'.cell rfl)) fun a452 h452 => ?_; clear h451
     refine pl_nil ?_
     refine co_then ?_
     have hB454 := hb_new hB182 hg415
     have hB455 := hb_row hB454 hr427 (by omega) hg425
     have hB456 := hb_new hB455 hg439
     have hB457 := hb_at hB456 hg449 (by omega)
     have hk458 := hk184.kept hg415 (by simp)
     have hk459 := hk458.kept hg425 (own_neT hr427 hk458 (by decide))
     have hk460 := hk459.kept hg439 (by simp)
     have hk461 := hk460.kept hg449 (by simp; omega)
     have hk462 := hk429.kept hg425 (own_neT hr427 hk429 (by decide))
     have hk463 := hk462.kept hg439 (by simp)
     have hk464 := hk463.kept hg449 (by simp; omega)
     have hk465 := hk172'.kept hg415 (by simp)
     have hk466 := hk465.kept hg425 (ha168)
     have hk467 := hk466.kept hg439 (by simp)
     have hk468 := hk467.kept hg449 (by simp; omega)
     have hk469 := hk416.kept hg425 (ha419)
     have hk470 := hk469.kept hg439 (by simp)
     have hk471 := hk470.kept hg449 (by simp; omega)
     have hr472 := row_kept_new hr424' hg439
     have hr473 := row_kept_at hr472 hg449 (ha443)
     cases hc453 : (x1.1)
     ·
      rw [hc453] at h452
      refine co_false h452 rfl ?_
      refine wp_skip ?_
      refine co_blockN ?_
      refine co_then ?_
      refine co_reg ?_
      refine pk0 (v := .int .i64 2) h452 rfl fun a474 h474 => ?_; clear h452
      refine pk0 (v := .int .i64 2) h474 rfl fun a475 h475 => ?_; clear h474
      refine pl_nil ?_
      refine co_then ?_
      refine co_unroll (n := 1) ?_
      refine co_seq ?_
      refine co_reg ?_
      refine pk0 (v := .bool (decide (2 < 3))) h475 rfl fun a476 h476 => ?_; clear h475
      refine pl_nil ?_
      refine co_then ?_
      refine co_seq ?_
      have hc477 : (decide (2 < 3)) = true := decide_eq_true (by omega)
      rw [hc477] at h476; clear hc477
      refine co_true h476 rfl ?_
      refine wp_skip ?_
      refine co_then ?_
      refine co_seq ?_
      refine wp_block ?_
      refine co_seq ?_
      refine co_reg ?_
      refine pk0 (v := .agg #[.bool x2.1, .int .i64 x2.2.1, .int .i64 x2.2.2.1, .int .i64 x2.2.2.2.1, .int .i64 x2.2.2.2.2]) h476 rfl fun a478 h478 => ?_; clear h476
      refine pw h478 rfl (op_new (v := fun N => pt N 0) (T := 63) (cs := #[.bool false, .int .i64 0, .int .i64 0, .int .i64 0, .int .i64 0]) (by kernel_rfl) (by kernel_rfl) (by kernel_rfl)) ?_; clear h478
      rintro _ w480 a479 ⟨N481, rfl, hN484, hz485, hk483, hg482⟩ h479
      have ha486 := row_fresh hr473 hN484
      have hz487 := hg482.size
      try dsimp only at h479
      refine pwD h479 rfl (op_storeN rfl rfl rfl (by kernel_rfl) (by kernel_rfl) hk483 rfl) ?_; clear h479
      rintro _ w489 a488 ⟨hk490, hz491, hg492⟩ h488
      have hk490' : Blk w489 N481 63 #[.bool x2.1, .int .i64 x2.2.1, .int .i64 x2.2.2.1, .int .i64 x2.2.2.2.1, .int .i64 x2.2.2.2.2] := hk490; clear hk490
      have hz493 := hg492.size
      refine pl_nil ?_
      refine co_then ?_
      refine co_seq ?_
      refine co_reg ?_
      refine pk0 (v := pt N481 0) h488 rfl fun a494 h494 => ?_; clear h488
      refine pk (v := .bool x2.1) h494 rfl (rn_load1 rfl rfl Try.isAgg4 (hk490'.cell rfl)) fun a495 h495 => ?_; clear h494
      refine pl_nil ?_
      refine co_then ?_
      have hB497 := hb_new hB457 hg482
      have hB498 := hb_at hB497 hg492 (by omega)
      have hk499 := hk461.kept hg482 (by simp)
      have hk500 := hk499.kept hg492 (by simp; omega)
      have hk501 := hk464.kept hg482 (by simp)
      have hk502 := hk501.kept hg492 (by simp; omega)
      have hk503 := hk468.kept hg482 (by simp)
      have hk504 := hk503.kept hg492 (by simp; omega)
      have hk505 := hk471.kept hg482 (by simp)
      have hk506 := hk505.kept hg492 (by simp; omega)
      have hr507 := row_kept_new hr473 hg482
      have hr508 := row_kept_at hr507 hg492 (ha486)
      have hk509 := hk447'.kept hg482 (by simp)
      have hk510 := hk509.kept hg492 (by simp; omega)
      cases hc496 : (x2.1)
      ·
       rw [hc496] at h495
       refine co_false h495 rfl ?_
       refine wp_skip ?_
       refine co_blockN ?_
       refine co_then ?_
       refine co_reg ?_
       refine pk0 (v := .int .i64 3) h495 rfl fun a511 h511 => ?_; clear h495
       refine pk0 (v := .int .i64 3) h511 rfl fun a512 h512 => ?_; clear h511
       refine pl_nil ?_
       refine co_then ?_
       refine co_unroll (n := 0) ?_
       refine co_seq ?_
       refine co_reg ?_
       refine pk0 (v := .bool (decide (3 < 3))) h512 rfl fun a513 h513 => ?_; clear h512
       refine pl_nil ?_
       refine co_then ?_
       refine co_seq ?_
       have hc514 : (decide (3 < 3)) = false := decide_eq_false (by omega)
       rw [hc514] at h513; clear hc514
       refine co_false h513 rfl ?_
       refine wp_exit ?_
       refine co_thenX ?_
       refine co_thenX ?_
       refine co_blockX ?_
       refine co_then ?_
       refine co_seq ?_
       refine co_reg ?_
       refine pk0 (v := v423) h513 rfl fun a515 h515 => ?_; clear h513
       refine pk0 (v := v423) h515 rfl fun a516 h516 => ?_; clear h515
       refine pl_nil ?_
       refine co_then ?_
       refine wp_ret ?_
       refine co_ret1 h516 rfl rfl ?_
       exact ⟨_, rfl, (row_eq hr508 (by rw [sdX_y (x := x0) (by assumption), sdX_n (x := x1) (by assumption), sdX_n (x := x2) (by assumption)] <;> simp only [List.append_assoc, List.append_nil, List.nil_append])), hB498⟩
      ·
       rw [hc496] at h495
       refine co_true h495 rfl ?_
       refine co_reg ?_
       refine pk0 (v := v423) h495 rfl fun a517 h517 => ?_; clear h495
       refine pk0 (v := pt N481 1) h517 rfl fun a518 h518 => ?_; clear h517
       refine pk (v := .agg #[.int .i64 x2.2.1, .int .i64 x2.2.2.1, .int .i64 x2.2.2.2.1, .int .i64 x2.2.2.2.2]) h518 rfl (rn_loadN rfl rfl Try.underlying42 rfl (by kernel_rfl) (blk_part hk490' 1 (by rfl))) fun a519 h519 => ?_; clear h518
       refine pk0 (v := .agg #[.int .i64 8, .int .i64 0, .int .u64 0, .int .i64 0, .slice none 0 0, .int .u64 0, .slice none 0 0, .int .i64 0, .int .i64 0, .slice none 0 0, .int .u64 0, .int .i64 0, .int .u64 0, .int .i64 0, .int .i64 x2.2.1, .int .i64 x2.2.2.1, .int .i64 x2.2.2.2.1, .int .i64 x2.2.2.2.2]) h519 rfl fun a520 h520 => ?_; clear h519
       refine pw h520 rfl (op_new (v := fun N => .slice (some ⟨N, 0, none⟩) 1 1) (T := 44) (cs := #[.int .i64 8, .int .i64 0, .int .u64 0, .int .i64 0, .slice none 0 0, .int .u64 0, .slice none 0 0, .int .i64 0, .int .i64 0, .slice none 0 0, .int .u64 0, .int .i64 0, .int .u64 0, .int .i64 0, .int .i64 x2.2.1, .int .i64 x2.2.2.1, .int .i64 x2.2.2.2.1, .int .i64 x2.2.2.2.2]) (by kernel_rfl) (by kernel_rfl) (by kernel_rfl)) ?_; clear h520
       rintro _ w522 a521 ⟨N523, rfl, hN526, hz527, hk525, hg524⟩ h521
       have ha528 := row_fresh hr508 hN526
       have hz529 := hg524.size
       try dsimp only at h521
       have hr536 := row_kept_new hr508 hg524
       refine pw h521 rfl (op_append rfl w.heap.size 44 (z := .agg #[.int .i64 0, .int .i64 0, .int .u64 0, .int .i64 0, .slice none 0 0, .int .u64 0, .slice none 0 0, .int .i64 0, .int .i64 0, .slice none 0 0, .int .u64 0, .int .i64 0, .int .u64 0, .int .i64 0, .int .i64 0, .int .i64 0, .int .i64 0, .int .i64 0]) (size := 18) (bytes := 192) Try.underlying22 (by kernel_rfl) rfl rfl rfl hr536 rfl hk525 rfl (by kernel_rfl) (by have hux := unX_len pn tp; first | omega | (simp only [List.length_nil, List.length_append, List.length_cons, List.length_map]; omega)) (by have hux := unX_len pn tp; first | omega | (simp only [List.length_nil, List.length_append, List.length_cons, List.length_map]; omega)) (by omega)) ?_; clear h521
       rintro v532 w531 a530 ⟨hr533, hg534⟩ h530
       have hr533' : w531.ownsRow w.heap.size 44 18 v532 ((([] : List NoteX) ++ pn.map xPn ++ unX pn tp ++ [(xHz hz)] ++ [(xSd x0)] ++ [(xSd x2)]).length) ((([] : List NoteX) ++ pn.map xPn ++ unX pn tp ++ [(xHz hz)] ++ [(xSd x0)] ++ [(xSd x2)]).flatMap noteE) := row_push (y := (xSd x2)) hr533 rfl rfl; clear hr533
       have hz537 := hg534.size
       have hk538 := hk502.kept hg524 (by simp)
       refine pk0 (v := v532) h530 rfl fun a539 h539 => ?_; clear h530
       refine pl_nil ?_
       refine co_blockN ?_
       refine co_then ?_
       refine co_reg ?_
       refine pk0 (v := .int .i64 3) h539 rfl fun a540 h540 => ?_; clear h539
       refine pk0 (v := .int .i64 3) h540 rfl fun a541 h541 => ?_; clear h540
       refine pl_nil ?_
       refine co_then ?_
       refine co_unroll (n := 0) ?_
       refine co_seq ?_
       refine co_reg ?_
       refine pk0 (v := .bool (decide (3 < 3))) h541 rfl fun a542 h542 => ?_; clear h541
       refine pl_nil ?_
       refine co_then ?_
       refine co_seq ?_
       have hc543 : (decide (3 < 3)) = false := decide_eq_false (by omega)
       rw [hc543] at h542; clear hc543
       refine co_false h542 rfl ?_
       refine wp_exit ?_
       refine co_thenX ?_
       refine co_thenX ?_
       refine co_blockX ?_
       refine co_then ?_
       refine co_seq ?_
       refine co_reg ?_
       refine pk0 (v := v532) h542 rfl fun a544 h544 => ?_; clear h542
       refine pk0 (v := v532) h544 rfl fun a545 h545 => ?_; clear h544
       refine pl_nil ?_
       refine co_then ?_
       refine wp_ret ?_
       refine co_ret1 h545 rfl rfl ?_
       have hB546 := hb_new hB498 hg524
       have hB547 := hb_row hB546 hr536 (by omega) hg534
       exact ⟨_, rfl, (row_eq hr533' (by rw [sdX_y (x := x0) (by assumption), sdX_n (x := x1) (by assumption), sdX_y (x := x2) (by assumption)] <;> simp only [List.append_assoc, List.append_nil, List.nil_append])), hB547⟩
     ·
      rw [hc453] at h452
      refine co_true h452 rfl ?_
      refine co_reg ?_
      refine pk0 (v := v423) h452 rfl fun a548 h548 => ?_; clear h452
      refine pk0 (v := pt N438 1) h548 rfl fun a549 h549 => ?_; clear h548
      refine pk (v := .agg #[.int .i64 x1.2.1, .int .i64 x1.2.2.1, .int .i64 x1.2.2.2.1, .int .i64 x1.2.2.2.2]) h549 rfl (rn_loadN rfl rfl Try.underlying42 rfl (by kernel_rfl) (blk_part hk447' 1 (by rfl))) fun a550 h550 => ?_; clear h549
      refine pk0 (v := .agg #[.int .i64 8, .int .i64 0, .int .u64 0, .int .i64 0, .slice none 0 0, .int .u64 0, .slice none 0 0, .int .i64 0, .int .i64 0, .slice none 0 0, .int .u64 0, .int .i64 0, .int .u64 0, .int .i64 0, .int .i64 x1.2.1, .int .i64 x1.2.2.1, .int .i64 x1.2.2.2.1, .int .i64 x1.2.2.2.2]) h550 rfl fun a551 h551 => ?_; clear h550
      refine pw h551 rfl (op_new (v := fun N => .slice (some ⟨N, 0, none⟩) 1 1) (T := 44) (cs := #[.int .i64 8, .int .i64 0, .int .u64 0, .int .i64 0, .slice none 0 0, .int .u64 0, .slice none 0 0, .int .i64 0, .int .i64 0, .slice none 0 0, .int .u64 0, .int .i64 0, .int .u64 0, .int .i64 0, .int .i64 x1.2.1, .int .i64 x1.2.2.1, .int .i64 x1.2.2.2.1, .int .i64 x1.2.2.2.2]) (by kernel_rfl) (by kernel_rfl) (by kernel_rfl)) ?_; clear h551
      rintro _ w553 a552 ⟨N554, rfl, hN557, hz558, hk556, hg555⟩ h552
      have ha559 := row_fresh hr473 hN557
      have hz560 := hg555.size
      try dsimp only at h552
      have hr567 := row_kept_new hr473 hg555
      refine pw h552 rfl (op_append rfl w.heap.size 44 (z := .agg #[.int .i64 0, .int .i64 0, .int .u64 0, .int .i64 0, .slice none 0 0, .int .u64 0, .slice none 0 0, .int .i64 0, .int .i64 0, .slice none 0 0, .int .u64 0, .int .i64 0, .int .u64 0, .int .i64 0, .int .i64 0, .int .i64 0, .int .i64 0, .int .i64 0]) (size := 18) (bytes := 192) Try.underlying22 (by kernel_rfl) rfl rfl rfl hr567 rfl hk556 rfl (by kernel_rfl) (by have hux := unX_len pn tp; first | omega | (simp only [List.length_nil, List.length_append, List.length_cons, List.length_map]; omega)) (by have hux := unX_len pn tp; first | omega | (simp only [List.length_nil, List.length_append, List.length_cons, List.length_map]; omega)) (by omega)) ?_; clear h552
      rintro v563 w562 a561 ⟨hr564, hg565⟩ h561
      have hr564' : w562.ownsRow w.heap.size 44 18 v563 ((([] : List NoteX) ++ pn.map xPn ++ unX pn tp ++ [(xHz hz)] ++ [(xSd x0)] ++ [(xSd x1)]).length) ((([] : List NoteX) ++ pn.map xPn ++ unX pn tp ++ [(xHz hz)] ++ [(xSd x0)] ++ [(xSd x1)]).flatMap noteE) := row_push (y := (xSd x1)) hr564 rfl rfl; clear hr564
      have hz568 := hg565.size
      have hk569 := hk464.kept hg555 (by simp)
      refine pk0 (v := v563) h561 rfl fun a570 h570 => ?_; clear h561
      refine pl_nil ?_
      refine co_blockN ?_
      refine co_then ?_
      refine co_reg ?_
      refine pk0 (v := .int .i64 2) h570 rfl fun a571 h571 => ?_; clear h570
      refine pk0 (v := .int .i64 2) h571 rfl fun a572 h572 => ?_; clear h571
      refine pl_nil ?_
      refine co_then ?_
      refine co_unroll (n := 1) ?_
      refine co_seq ?_
      refine co_reg ?_
      refine pk0 (v := .bool (decide (2 < 3))) h572 rfl fun a573 h573 => ?_; clear h572
      refine pl_nil ?_
      refine co_then ?_
      refine co_seq ?_
      have hc574 : (decide (2 < 3)) = true := decide_eq_true (by omega)
      rw [hc574] at h573; clear hc574
      refine co_true h573 rfl ?_
      refine wp_skip ?_
      refine co_then ?_
      refine co_seq ?_
      refine wp_block ?_
      refine co_seq ?_
      refine co_reg ?_
      refine pk0 (v := .agg #[.bool x2.1, .int .i64 x2.2.1, .int .i64 x2.2.2.1, .int .i64 x2.2.2.2.1, .int .i64 x2.2.2.2.2]) h573 rfl fun a575 h575 => ?_; clear h573
      refine pw h575 rfl (op_new (v := fun N => pt N 0) (T := 63) (cs := #[.bool false, .int .i64 0, .int .i64 0, .int .i64 0, .int .i64 0]) (by kernel_rfl) (by kernel_rfl) (by kernel_rfl)) ?_; clear h575
      rintro _ w577 a576 ⟨N578, rfl, hN581, hz582, hk580, hg579⟩ h576
      have ha583 := row_fresh hr564' hN581
      have hz584 := hg579.size
      try dsimp only at h576
      refine pwD h576 rfl (op_storeN rfl rfl rfl (by kernel_rfl) (by kernel_rfl) hk580 rfl) ?_; clear h576
      rintro _ w586 a585 ⟨hk587, hz588, hg589⟩ h585
      have hk587' : Blk w586 N578 63 #[.bool x2.1, .int .i64 x2.2.1, .int .i64 x2.2.2.1, .int .i64 x2.2.2.2.1, .int .i64 x2.2.2.2.2] := hk587; clear hk587
      have hz590 := hg589.size
      refine pl_nil ?_
      refine co_then ?_
      refine co_seq ?_
      refine co_reg ?_
      refine pk0 (v := pt N578 0) h585 rfl fun a591 h591 => ?_; clear h585
      refine pk (v := .bool x2.1) h591 rfl (rn_load1 rfl rfl Try.isAgg4 (hk587'.cell rfl)) fun a592 h592 => ?_; clear h591
      refine pl_nil ?_
      refine co_then ?_
      have hB594 := hb_new hB457 hg555
      have hB595 := hb_row hB594 hr567 (by omega) hg565
      have hB596 := hb_new hB595 hg579
      have hB597 := hb_at hB596 hg589 (by omega)
      have hk598 := hk461.kept hg555 (by simp)
      have hk599 := hk598.kept hg565 (own_neT hr567 hk598 (by decide))
      have hk600 := hk599.kept hg579 (by simp)
      have hk601 := hk600.kept hg589 (by simp; omega)
      have hk602 := hk569.kept hg565 (own_neT hr567 hk569 (by decide))
      have hk603 := hk602.kept hg579 (by simp)
      have hk604 := hk603.kept hg589 (by simp; omega)
      have hk605 := hk468.kept hg555 (by simp)
      have hk606 := hk605.kept hg565 (own_neT hr567 hk605 (by decide))
      have hk607 := hk606.kept hg579 (by simp)
      have hk608 := hk607.kept hg589 (by simp; omega)
      have hk609 := hk447'.kept hg555 (by simp)
      have hk610 := hk609.kept hg565 (ha443)
      have hk611 := hk610.kept hg579 (by simp)
      have hk612 := hk611.kept hg589 (by simp; omega)
      have hk613 := hk556.kept hg565 (ha559)
      have hk614 := hk613.kept hg579 (by simp)
      have hk615 := hk614.kept hg589 (by simp; omega)
      have hr616 := row_kept_new hr564' hg579
      have hr617 := row_kept_at hr616 hg589 (ha583)
      cases hc593 : (x2.1)
      ·
       rw [hc593] at h592
       refine co_false h592 rfl ?_
       refine wp_skip ?_
       refine co_blockN ?_
       refine co_then ?_
       refine co_reg ?_
       refine pk0 (v := .int .i64 3) h592 rfl fun a618 h618 => ?_; clear h592
       refine pk0 (v := .int .i64 3) h618 rfl fun a619 h619 => ?_; clear h618
       refine pl_nil ?_
       refine co_then ?_
       refine co_unroll (n := 0) ?_
       refine co_seq ?_
       refine co_reg ?_
       refine pk0 (v := .bool (decide (3 < 3))) h619 rfl fun a620 h620 => ?_; clear h619
       refine pl_nil ?_
       refine co_then ?_
       refine co_seq ?_
       have hc621 : (decide (3 < 3)) = false := decide_eq_false (by omega)
       rw [hc621] at h620; clear hc621
       refine co_false h620 rfl ?_
       refine wp_exit ?_
       refine co_thenX ?_
       refine co_thenX ?_
       refine co_blockX ?_
       refine co_then ?_
       refine co_seq ?_
       refine co_reg ?_
       refine pk0 (v := v563) h620 rfl fun a622 h622 => ?_; clear h620
       refine pk0 (v := v563) h622 rfl fun a623 h623 => ?_; clear h622
       refine pl_nil ?_
       refine co_then ?_
       refine wp_ret ?_
       refine co_ret1 h623 rfl rfl ?_
       exact ⟨_, rfl, (row_eq hr617 (by rw [sdX_y (x := x0) (by assumption), sdX_y (x := x1) (by assumption), sdX_n (x := x2) (by assumption)] <;> simp only [List.append_assoc, List.append_nil, List.nil_append])), hB597⟩
      ·
       rw [hc593] at h592
       refine co_true h592 rfl ?_
       refine co_reg ?_
       refine pk0 (v := v563) h592 rfl fun a624 h624 => ?_; clear h592
       refine pk0 (v := pt N578 1) h624 rfl fun a625 h625 => ?_; clear h624
       refine pk (v := .agg #[.int .i64 x2.2.1, .int .i64 x2.2.2.1, .int .i64 x2.2.2.2.1, .int .i64 x2.2.2.2.2]) h625 rfl (rn_loadN rfl rfl Try.underlying42 rfl (by kernel_rfl) (blk_part hk587' 1 (by rfl))) fun a626 h626 => ?_; clear h625
       refine pk0 (v := .agg #[.int .i64 8, .int .i64 0, .int .u64 0, .int .i64 0, .slice none 0 0, .int .u64 0, .slice none 0 0, .int .i64 0, .int .i64 0, .slice none 0 0, .int .u64 0, .int .i64 0, .int .u64 0, .int .i64 0, .int .i64 x2.2.1, .int .i64 x2.2.2.1, .int .i64 x2.2.2.2.1, .int .i64 x2.2.2.2.2]) h626 rfl fun a627 h627 => ?_; clear h626
       refine pw h627 rfl (op_new (v := fun N => .slice (some ⟨N, 0, none⟩) 1 1) (T := 44) (cs := #[.int .i64 8, .int .i64 0, .int .u64 0, .int .i64 0, .slice none 0 0, .int .u64 0, .slice none 0 0, .int .i64 0, .int .i64 0, .slice none 0 0, .int .u64 0, .int .i64 0, .int .u64 0, .int .i64 0, .int .i64 x2.2.1, .int .i64 x2.2.2.1, .int .i64 x2.2.2.2.1, .int .i64 x2.2.2.2.2]) (by kernel_rfl) (by kernel_rfl) (by kernel_rfl)) ?_; clear h627
       rintro _ w629 a628 ⟨N630, rfl, hN633, hz634, hk632, hg631⟩ h628
       have ha635 := row_fresh hr617 hN633
       have hz636 := hg631.size
       try dsimp only at h628
       have hr643 := row_kept_new hr617 hg631
       refine pw h628 rfl (op_append rfl w.heap.size 44 (z := .agg #[.int .i64 0, .int .i64 0, .int .u64 0, .int .i64 0, .slice none 0 0, .int .u64 0, .slice none 0 0, .int .i64 0, .int .i64 0, .slice none 0 0, .int .u64 0, .int .i64 0, .int .u64 0, .int .i64 0, .int .i64 0, .int .i64 0, .int .i64 0, .int .i64 0]) (size := 18) (bytes := 192) Try.underlying22 (by kernel_rfl) rfl rfl rfl hr643 rfl hk632 rfl (by kernel_rfl) (by have hux := unX_len pn tp; first | omega | (simp only [List.length_nil, List.length_append, List.length_cons, List.length_map]; omega)) (by have hux := unX_len pn tp; first | omega | (simp only [List.length_nil, List.length_append, List.length_cons, List.length_map]; omega)) (by omega)) ?_; clear h628
       rintro v639 w638 a637 ⟨hr640, hg641⟩ h637
       have hr640' : w638.ownsRow w.heap.size 44 18 v639 ((([] : List NoteX) ++ pn.map xPn ++ unX pn tp ++ [(xHz hz)] ++ [(xSd x0)] ++ [(xSd x1)] ++ [(xSd x2)]).length) ((([] : List NoteX) ++ pn.map xPn ++ unX pn tp ++ [(xHz hz)] ++ [(xSd x0)] ++ [(xSd x1)] ++ [(xSd x2)]).flatMap noteE) := row_push (y := (xSd x2)) hr640 rfl rfl; clear hr640
       have hz644 := hg641.size
       have hk645 := hk604.kept hg631 (by simp)
       refine pk0 (v := v639) h637 rfl fun a646 h646 => ?_; clear h637
       refine pl_nil ?_
       refine co_blockN ?_
       refine co_then ?_
       refine co_reg ?_
       refine pk0 (v := .int .i64 3) h646 rfl fun a647 h647 => ?_; clear h646
       refine pk0 (v := .int .i64 3) h647 rfl fun a648 h648 => ?_; clear h647
       refine pl_nil ?_
       refine co_then ?_
       refine co_unroll (n := 0) ?_
       refine co_seq ?_
       refine co_reg ?_
       refine pk0 (v := .bool (decide (3 < 3))) h648 rfl fun a649 h649 => ?_; clear h648
       refine pl_nil ?_
       refine co_then ?_
       refine co_seq ?_
       have hc650 : (decide (3 < 3)) = false := decide_eq_false (by omega)
       rw [hc650] at h649; clear hc650
       refine co_false h649 rfl ?_
       refine wp_exit ?_
       refine co_thenX ?_
       refine co_thenX ?_
       refine co_blockX ?_
       refine co_then ?_
       refine co_seq ?_
       refine co_reg ?_
       refine pk0 (v := v639) h649 rfl fun a651 h651 => ?_; clear h649
       refine pk0 (v := v639) h651 rfl fun a652 h652 => ?_; clear h651
       refine pl_nil ?_
       refine co_then ?_
       refine wp_ret ?_
       refine co_ret1 h652 rfl rfl ?_
       have hB653 := hb_new hB597 hg631
       have hB654 := hb_row hB653 hr643 (by omega) hg641
       exact ⟨_, rfl, (row_eq hr640' (by rw [sdX_y (x := x0) (by assumption), sdX_y (x := x1) (by assumption), sdX_y (x := x2) (by assumption)] <;> simp only [List.append_assoc, List.append_nil, List.nil_append])), hB654⟩
   ·
    rw [hc59] at h58
    have hp655 : ((i : Nat) : Int) < ((pn.length : Nat) : Int) := of_decide_eq_true hc59
    clear hc59
    refine co_true h58 rfl ?_
    refine wp_skip ?_
    refine co_then ?_
    refine co_seq ?_
    refine wp_block ?_
    refine co_seq ?_
    refine co_reg ?_
    obtain ⟨y656, hy656⟩ : ∃ z, pn[i]? = some z := ⟨_, List.getElem?_eq_getElem (by first | omega | (simp; done) | (simp; omega))⟩
    refine pk (v := pt (blkOf pv) (offOf pv + i * 3)) h58 rfl (rn_index rfl rfl rfl Try.underlying47 Try.sizeOf40 (row_sl hf49 pinE_len) (by omega) (by first | omega | (simp; done) | (simp; omega))) fun a657 h657 => ?_; clear h58
    refine pk (v := .agg #[.int .i64 y656.1, .int .u64 y656.2.1, .int .i64 y656.2.2]) h657 rfl (rn_loadN rfl rfl Try.underlying40 rfl (by kernel_rfl) (sl_at (row_sl hf49 pinE_len) hy656)) fun a658 h658 => ?_; clear h657
    refine pw h658 rfl (op_new (v := fun N => pt N 0) (T := 40) (cs := #[.int .i64 0, .int .u64 0, .int .i64 0]) (by kernel_rfl) (by kernel_rfl) (by kernel_rfl)) ?_; clear h658
    rintro _ w660 a659 ⟨N661, rfl, hN664, hz665, hk663, hg662⟩ h659
    have ha666 := row_fresh hf48 hN664
    have ha667 := row_fresh hf49 hN664
    have ha668 := row_fresh hf50 hN664
    have ha669 := row_fresh hf51 hN664
    have hz670 := hg662.size
    try dsimp only at h659
    refine pwD h659 rfl (op_storeN rfl rfl rfl (by kernel_rfl) (by kernel_rfl) hk663 rfl) ?_; clear h659
    rintro _ w672 a671 ⟨hk673, hz674, hg675⟩ h671
    have hk673' : Blk w672 N661 40 #[.int .i64 y656.1, .int .u64 y656.2.1, .int .i64 y656.2.2] := hk673; clear hk673
    have hz676 := hg675.size
    refine pl_nil ?_
    refine co_then ?_
    refine co_reg ?_
    refine pk0 (v := un) h671 rfl fun a677 h677 => ?_; clear h671
    refine pk (v := .agg #[.int .i64 y656.1, .int .u64 y656.2.1, .int .i64 y656.2.2]) h677 rfl (rn_loadN rfl rfl Try.underlying40 rfl (by kernel_rfl) hk673'.all) fun a678 h678 => ?_; clear h677
    refine pk0 (v := .agg #[.int .i64 6, .int .i64 0, .int .u64 0, .int .i64 0, .slice none 0 0, .int .u64 0, .slice none 0 0, .int .i64 0, .int .i64 0, .slice none 0 0, .int .u64 0, .int .i64 y656.1, .int .u64 y656.2.1, .int .i64 y656.2.2, .int .i64 0, .int .i64 0, .int .i64 0, .int .i64 0]) h678 rfl fun a679 h679 => ?_; clear h678
    refine pw h679 rfl (op_new (v := fun N => .slice (some ⟨N, 0, none⟩) 1 1) (T := 44) (cs := #[.int .i64 6, .int .i64 0, .int .u64 0, .int .i64 0, .slice none 0 0, .int .u64 0, .slice none 0 0, .int .i64 0, .int .i64 0, .slice none 0 0, .int .u64 0, .int .i64 y656.1, .int .u64 y656.2.1, .int .i64 y656.2.2, .int .i64 0, .int .i64 0, .int .i64 0, .int .i64 0]) (by kernel_rfl) (by kernel_rfl) (by kernel_rfl)) ?_; clear h679
    rintro _ w681 a680 ⟨N682, rfl, hN685, hz686, hk684, hg683⟩ h680
    have hr688 := row_kept_new hf48 hg662
    have hr689 := row_kept_at hr688 hg675 (ha666)
    have ha687 := row_fresh hr689 hN685
    have hr691 := row_kept_new hf49 hg662
    have hr692 := row_kept_at hr691 hg675 (ha667)
    have ha690 := row_fresh hr692 hN685
    have hr694 := row_kept_new hf50 hg662
    have hr695 := row_kept_at hr694 hg675 (ha668)
    have ha693 := row_fresh hr695 hN685
    have hr697 := row_kept_new hf51 hg662
    have hr698 := row_kept_at hr697 hg675 (ha669)
    have ha696 := row_fresh hr698 hN685
    have hz699 := hg683.size
    try dsimp only at h680
    have hr706 := row_kept_new hr689 hg683
    refine pw h680 rfl (op_append rfl w.heap.size 44 (z := .agg #[.int .i64 0, .int .i64 0, .int .u64 0, .int .i64 0, .slice none 0 0, .int .u64 0, .slice none 0 0, .int .i64 0, .int .i64 0, .slice none 0 0, .int .u64 0, .int .i64 0, .int .u64 0, .int .i64 0, .int .i64 0, .int .i64 0, .int .i64 0, .int .i64 0]) (size := 18) (bytes := 192) Try.underlying22 (by kernel_rfl) rfl rfl rfl hr706 rfl hk684 rfl (by kernel_rfl) (by have hux := unX_len pn tp; first | omega | (simp only [List.length_nil, List.length_append, List.length_cons, List.length_map]; omega)) (by have hux := unX_len pn tp; first | omega | (simp only [List.length_nil, List.length_append, List.length_cons, List.length_map]; omega)) (by omega)) ?_; clear h680
    rintro v702 w701 a700 ⟨hr703, hg704⟩ h700
    have hr703' : w701.ownsRow w.heap.size 44 18 v702 ((([] : List NoteX) ++ (pn.take i).map xPn ++ [(xPn y656)]).length) ((([] : List NoteX) ++ (pn.take i).map xPn ++ [(xPn y656)]).flatMap noteE) := row_push (y := (xPn y656)) hr703 rfl rfl; clear hr703
    have hz707 := hg704.size
    have hk708 := hk53.kept hg662 (by simp)
    have hk709 := hk708.kept hg675 (by simp; omega)
    have hk710 := hk709.kept hg683 (by simp)
    refine pk0 (v := v702) h700 rfl fun a711 h711 => ?_; clear h700
    refine pl_nil ?_
    refine co_blockN ?_
    refine co_then ?_
    refine co_reg ?_
    refine pk (v := .int .i64 ((i + 1 : Nat) : Int)) h711 rfl (rn_arith' rfl rfl rfl rfl rfl rfl (IntWalk.i64_in _ (by omega)) (by omega)) fun a712 h712 => ?_; clear h711
    refine pk0 (v := .int .i64 ((i + 1 : Nat) : Int)) h712 rfl fun a713 h713 => ?_; clear h712
    refine pl_nil ?_
    refine co_then ?_
    refine ⟨(pn.length - (i + 1)), by omega, ?_⟩
    have hr714 := row_kept_new hr692 hg683
    have hr715 := row_kept_ap hr714 hr706 (fun i hi => by have := hu_pv i hi; omega) hg704
    have hr716 := row_kept_new hr695 hg683
    have hr717 := row_kept_ap hr716 hr706 (fun i hi => by have := hu_lgv i hi; omega) hg704
    have hr718 := row_kept_new hr698 hg683
    have hr719 := row_kept_ap hr718 hr706 (fun i hi => by have := hu_cv i hi; omega) hg704
    have hB720 := hb_new hB52 hg662
    have hB721 := hb_at hB720 hg675 (by omega)
    have hB722 := hb_new hB721 hg683
    have hB723 := hb_row hB722 hr706 (by omega) hg704
    have hk724 := hk710.kept hg704 (own_neT hr706 hk710 (by decide))
    have hk725 := hk54.kept hg662 (by simp)
    have hk726 := hk725.kept hg675 (by simp; omega)
    have hk727 := hk726.kept hg683 (by simp)
    have hk728 := hk727.kept hg704 (own_neT hr706 hk727 (by decide))
    exact ⟨i + 1, v702, h713.sub ⟨rfl, rfl, rfl, rfl, rfl, trivial⟩, rfl, by omega, (row_eq hr703' (pnX_snoc hy656)), hr715, hr717, hr719, hB723, hk724, hk728⟩
end Go.Proofs.Ytnjbnndpbegkdaa

/- catenalaw28: states as one, of both; what the law calls on them. Conditions: none. -/
namespace Go.Proofs.Ytnjbnndpbegkdaa
open Go.RowKit Go.PlainAid
set_option linter.unusedVariables false
set_option linter.unusedSimpArgs false

/-- The document's state, block b. -/
def MdO (w : World) (b : Nat) (s : MsT) : Prop := ∃ cv lgv pv : Value, Blk w b 50 #[.int .i64 s.ep, cv, .int .u64 s.fl, lgv, .int .u64 s.hz, pv, .int .i64 s.tp, .int .i64 s.x0.2.1, .int .i64 s.x0.2.2.1, .int .i64 s.x0.2.2.2.1, .int .i64 s.x0.2.2.2.2, .int .i64 s.x1.2.1, .int .i64 s.x1.2.2.1, .int .i64 s.x1.2.2.2.1, .int .i64 s.x1.2.2.2.2, .int .i64 s.x2.2.1, .int .i64 s.x2.2.2.1, .int .i64 s.x2.2.2.2.1, .int .i64 s.x2.2.2.2.2] ∧
  w.ownsRow 0 102 2 cv s.ms.length (s.ms.flatMap memE) ∧ w.ownsRow 0 3 1 lgv s.lg.length (s.lg.flatMap (intE .i64)) ∧ w.ownsRow 0 40 3 pv s.pn.length (s.pn.flatMap pinE) ∧ s.pn.length ≤ 3
/-- A block of a type that no row of a state has. -/
def OffT (w : World) (N : Nat) : Prop := ∃ T cs, Blk w N T cs ∧ T ≠ 44 ∧ T ≠ 102 ∧ T ≠ 3 ∧ T ≠ 40
structure NtR (w : World) (z : NoteX) : Prop where
  mv : w.ownsRow 0 102 2 z.mv z.d.ms.length (z.d.ms.flatMap memE)
  lv : w.ownsRow 0 3 1 z.lv z.d.lg.length (z.d.lg.flatMap (intE .i64))
  ev : z.ev = .slice none 0 0
  el : z.d.el = []
  hR : NoteR z.d
/-- Notes in rows of one's own. -/
def NtM (w : World) (v : Value) (ks : List NoteX) : Prop := w.ownsRow 0 44 18 v ks.length (ks.flatMap noteE) ∧ ∀ z ∈ ks, NtR w z
section
variable {w x : World} {b N : Nat} {s : MsT} {d : NoteD} {mv lv ev v : Value} {ks : List NoteX} {z : NoteX} {i : Nat}
theorem MdO.lt (h : MdO w b s) : b < w.heap.size := by obtain ⟨_, _, _, h, _⟩ := h; exact h.lt
theorem MdO.keep (h : MdO w b s) (hs : w.heap.size ≤ x.heap.size) (hk : ∀ i, i < w.heap.size → (i = b ∨ ∃ T sz k v xs, w.ownsRow 0 T sz v k xs ∧ v.ownBlock = some i ∧ (T = 102 ∨ T = 3 ∨ T = 40)) → x.heap[i]? = w.heap[i]?) : MdO x b s := by
  obtain ⟨cv, lgv, pv, h1, h2, h3, h4, h5⟩ := h
  exact ⟨cv, lgv, pv, (hk b h1.lt (.inl rfl)).trans h1, row_sameL h2 (fun i hi => hk i (h2.lt i hi).2 (.inr ⟨_, _, _, _, _, h2, hi, .inl rfl⟩)), row_sameL h3 (fun i hi => hk i (h3.lt i hi).2 (.inr ⟨_, _, _, _, _, h3, hi, .inr (.inl rfl)⟩)), row_sameL h4 (fun i hi => hk i (h4.lt i hi).2 (.inr ⟨_, _, _, _, _, h4, hi, .inr (.inr rfl)⟩)), h5⟩
theorem MdO.below (h : MdO w b s) (hb : Below w.heap.size w x) : MdO x b s := h.keep hb.size (fun i hi _ => hb.block i hi)
theorem MdO.new (h : MdO w b s) (hg : w.grownBy x none) : MdO x b s := h.keep hg.size (fun i hi _ => hg.block i hi (fun e => by cases e))
theorem OffT.not (h : OffT w N) (hn : N ≠ b) (i : Nat) (hq : i = b ∨ ∃ T sz k v xs, w.ownsRow 0 T sz v k xs ∧ v.ownBlock = some i ∧ (T = 102 ∨ T = 3 ∨ T = 40)) : ¬ i = N := fun e => by
  subst e
  obtain ⟨T, cs, h0, t1, t2, t3, t4⟩ := h
  rcases hq with rfl | ⟨T', sz, k, v, xs, h1, h2, h3⟩
  · exact hn rfl
  · have hne : T' ≠ T := by rcases h3 with rfl | rfl | rfl <;> first | exact Ne.symm t2 | exact Ne.symm t3 | exact Ne.symm t4
    exact own_neT h1 h0 hne h2
theorem MdO.foot (h : MdO w b s) (hN : OffT w N) (hn : N ≠ b) (hB : But (fun q => q = N) w x) : MdO x b s := h.keep hB.size (fun i hi hq => hB.block i hi (hN.not hn i hq))
theorem MsO.foot (h : MsO w b s) (hN : OffT w N) (hn : N ≠ b) (hB : But (fun q => q = N) w x) : MsO x b s := h.keep hB.size (fun i hi hq => hB.block i hi (hN.not hn i hq))
theorem MdO.off (h : MdO w b s) : OffT w b := by obtain ⟨_, _, _, h, _⟩ := h; exact ⟨_, _, h, by decide, by decide, by decide, by decide⟩
theorem MsO.off (h : MsO w b s) : OffT w b := by obtain ⟨_, _, _, h, _⟩ := h; exact ⟨_, _, h, by decide, by decide, by decide, by decide⟩
theorem OffT.row {T : TypeId} {sz k : Nat} {xs : List Value} (h : OffT w N) (hr : w.ownsRow 0 T sz v k xs) (hT : T = 44 ∨ T = 102 ∨ T = 3 ∨ T = 40) : ∀ i, v.ownBlock = some i → ¬ i = N := fun i hi e => by
  subst e
  obtain ⟨T', cs, h0, t1, t2, t3, t4⟩ := h
  have hne : T ≠ T' := by rcases hT with rfl | rfl | rfl | rfl <;> first | exact Ne.symm t1 | exact Ne.symm t2 | exact Ne.symm t3 | exact Ne.symm t4
  exact own_neT hr h0 hne hi
theorem NtR.ok (h : NtR w z) : NoteOk w z := ⟨row_sl h.mv memE_len, row_sl h.lv (fun _ => rfl), by rw [h.ev, h.el]; exact SliceOf.nil _ _ _, h.hR⟩
theorem NtR.to (h : NtR w z) (h1 : x.ownsRow 0 102 2 z.mv z.d.ms.length (z.d.ms.flatMap memE)) (h2 : x.ownsRow 0 3 1 z.lv z.d.lg.length (z.d.lg.flatMap (intE .i64))) : NtR x z := ⟨h1, h2, h.ev, h.el, h.hR⟩
theorem NtM.new (h : NtM w v ks) (hg : w.grownBy x none) : NtM x v ks := ⟨row_kept_new h.1 hg, fun z hz => (h.2 z hz).to (row_kept_new (h.2 z hz).mv hg) (row_kept_new (h.2 z hz).lv hg)⟩
theorem NtM.below (h : NtM w v ks) (hb : Below w.heap.size w x) : NtM x v ks := h.new (below_grown hb)
theorem NtM.foot (h : NtM w v ks) (hN : OffT w N) (hB : But (fun q => q = N) w x) : NtM x v ks :=
  ⟨own_but h.1 hB (fun i hi hS => hN.row h.1 (.inl rfl) i hi hS), fun z hz => (h.2 z hz).to (own_but (h.2 z hz).mv hB (fun i hi hS => hN.row (h.2 z hz).mv (.inr (.inl rfl)) i hi hS)) (own_but (h.2 z hz).lv hB (fun i hi hS => hN.row (h.2 z hz).lv (.inr (.inr (.inl rfl))) i hi hS))⟩
theorem NtM.sl (h : NtM w v ks) : SliceOf noteE 18 w v ks := row_sl h.1 noteE_len
theorem NtM.one (h : NtM w v ks) (hy : ks[i]? = some z) : NtR w z := h.2 z (List.mem_of_getElem? hy)
theorem NtR.offM (h : NtR w z) (hb : OffT w b) : z.d.ms ≠ [] → ∀ k, z.mv.ownBlock = some k → ¬ k = b := fun _ => hb.row h.mv (.inr (.inl rfl))
theorem NtR.offG (h : NtR w z) (hb : OffT w b) : z.d.lg ≠ [] → ∀ k, z.lv.ownBlock = some k → ¬ k = b := fun _ => hb.row h.lv (.inr (.inr (.inl rfl)))
theorem NtR.offE (h : NtR w z) : z.d.el ≠ [] → ∀ k, z.ev.ownBlock = some k → ¬ k = b := fun q => absurd h.el q
theorem nts_R (v : VaM s) : ∀ d ∈ ntsM s, NoteR d := by
  intro d hd
  have ve := v.ep; have vf := v.fl; have vh := v.hz
  have hpn : ∀ p ∈ s.pn, NoteR (nPnM p) := fun p hp => by have := (v.pnT p hp).2.1; exact ⟨by simp [nPnM], by simp only [nPnM]; omega⟩
  have hsd : ∀ y : SdT, NoteR (nSdM y) := fun y => ⟨by simp [nSdM], by simp only [nSdM]; omega⟩
  have hsx : ∀ y : SdT, d ∈ sdM y → NoteR d := fun y h => by
    unfold sdM at h; split at h
    · simp at h; subst h; exact hsd y
    · cases h
  unfold ntsM at hd
  simp only [List.mem_append] at hd
  rcases hd with ((((( hd | hd) | hd) | hd) | hd) | hd) | hd
  · unfold cfM at hd; split at hd
    · simp at hd; subst hd; exact ⟨v.mem, by simp only [nCfM]; omega⟩
    · cases hd
  · obtain ⟨p, hp, rfl⟩ := List.mem_map.1 hd; exact hpn p hp
  · unfold unM at hd; split at hd
    · cases hd
    · simp at hd; subst hd; exact ⟨by simp [nUnM], by simp only [nUnM]; omega⟩
  · simp at hd; subst hd; exact ⟨by simp [nHzM], by simp only [nHzM]; omega⟩
  · exact hsx _ hd
  · exact hsx _ hd
  · exact hsx _ hd
theorem nilR (hR : NoteR d) (h1 : d.ms = []) (h2 : d.lg = []) (h3 : d.el = []) : NtR w ⟨d, .slice none 0 0, .slice none 0 0, .slice none 0 0⟩ := ⟨by show w.ownsRow _ _ _ _ d.ms.length _; rw [h1]; exact World.ownsRow_nil _ _ _ _, by show w.ownsRow _ _ _ _ d.lg.length _; rw [h2]; exact World.ownsRow_nil _ _ _ _, rfl, h3, hR⟩
theorem unX_d (s : MsT) : (unX s.pn s.tp).map (·.d) = unM s := by unfold unX unM; split <;> rfl
theorem sdX_d (y : SdT) : (sdX y).map (·.d) = sdM y := by unfold sdX sdM; split <;> rfl
theorem pnX_d (l : List PinT) : (l.map xPn).map (·.d) = l.map nPnM := by rw [List.map_map]; rfl
theorem ntTail (hn : ∀ d ∈ ntsM s, NoteR d) (ks : List NoteX) (h : ks = s.pn.map xPn ++ unX s.pn s.tp ++ [xHz s.hz] ++ sdX s.x0 ++ sdX s.x1 ++ sdX s.x2) (hm : ∀ z ∈ ks, z.d ∈ ntsM s) : ∀ z ∈ ks, NtR w z := by
  intro z hz
  have hR := hn _ (hm z hz)
  have hsx : ∀ y : SdT, z ∈ sdX y → NtR w z := fun y h => by
    unfold sdX at h; split at h
    · simp at h; subst h; exact nilR hR rfl rfl rfl
    · cases h
  rw [h] at hz
  simp only [List.mem_append] at hz
  rcases hz with (((( hz | hz) | hz) | hz) | hz) | hz
  · obtain ⟨p, hp, rfl⟩ := List.mem_map.1 hz; exact nilR hR rfl rfl rfl
  · unfold unX at hz; split at hz
    · cases hz
    · simp at hz; subst hz; exact nilR hR rfl rfl rfl
  · simp at hz; subst hz; exact nilR hR rfl rfl rfl
  · exact hsx _ hz
  · exact hsx _ hz
  · exact hsx _ hz
theorem moNotes (h : MsO w b s) (hv : VaM s) : Calls Try.prog 9 #[pt b 0] w fun e w' => ∃ (u : Value) (ks : List NoteX), e = .returned u ∧ ks.map (·.d) = ntsM s ∧ NtM w' u ks ∧ Below w.heap.size w w' := by
  obtain ⟨cv, lgv, pv, h1, h2, h3, h4, h5⟩ := h
  have hl4 := hv.lg4
  have hT : ∀ (ks : List NoteX), ks = s.pn.map xPn ++ unX s.pn s.tp ++ [xHz s.hz] ++ sdX s.x0 ++ sdX s.x1 ++ sdX s.x2 → ks.map (·.d) = s.pn.map nPnM ++ unM s ++ [nHzM s.hz] ++ sdM s.x0 ++ sdM s.x1 ++ sdM s.x2 := fun ks e => by
    rw [e]; simp only [List.map_append, unX_d, sdX_d, pnX_d]; rfl
  by_cases he : 0 < s.ep
  · refine (msNtsY b s.ep cv s.fl lgv s.hz pv s.pn s.tp s.x0 s.x1 s.x2 s.ms s.lg w h1 h4 h5 h2 h3 ⟨hv.ms20, by omega⟩ he).mono ?_
    rintro e x ⟨u1, u2, u, rfl, k1, k2, k3, k4⟩
    have hmap : ([xCf s.ep s.fl s.ms s.lg u1 u2] ++ s.pn.map xPn ++ unX s.pn s.tp ++ [xHz s.hz] ++ sdX s.x0 ++ sdX s.x1 ++ sdX s.x2).map (·.d) = ntsM s := by
      have := hT _ rfl
      unfold ntsM cfM
      rw [if_pos he]
      simp only [List.append_assoc] at this ⊢
      rw [List.map_append, this]; rfl
    refine ⟨u, _, rfl, hmap, ⟨row_lows k1 (Nat.zero_le _), fun z hz => ?_⟩, k4⟩
    have hm : ∀ z ∈ s.pn.map xPn ++ unX s.pn s.tp ++ [xHz s.hz] ++ sdX s.x0 ++ sdX s.x1 ++ sdX s.x2, z.d ∈ ntsM s := fun z hz => by
      rw [← hmap]; refine List.mem_map_of_mem ?_; simp only [List.append_assoc] at hz ⊢; exact List.mem_append_right _ hz
    have hz' : z = xCf s.ep s.fl s.ms s.lg u1 u2 ∨ z ∈ s.pn.map xPn ++ unX s.pn s.tp ++ [xHz s.hz] ++ sdX s.x0 ++ sdX s.x1 ++ sdX s.x2 := by
      simp only [List.append_assoc] at hz ⊢
      rcases List.mem_append.1 hz with q | q
      · left; simpa using q
      · exact .inr q
    rcases hz' with rfl | hz'
    · exact ⟨row_lows k2 (Nat.zero_le _), row_lows k3 (Nat.zero_le _), rfl, rfl, nts_R hv _ (by rw [← hmap]; exact List.mem_map_of_mem hz)⟩
    · exact ntTail (nts_R hv) _ rfl hm z hz'
  · refine (msNtsN b s.ep cv s.fl lgv s.hz pv s.pn s.tp s.x0 s.x1 s.x2 s.ms s.lg w h1 h4 h5 h2 h3 ⟨hv.ms20, by omega⟩ he).mono ?_
    rintro e x ⟨u, rfl, k1, k4⟩
    rw [List.nil_append] at k1
    have hmap : (s.pn.map xPn ++ unX s.pn s.tp ++ [xHz s.hz] ++ sdX s.x0 ++ sdX s.x1 ++ sdX s.x2).map (·.d) = ntsM s := by
      rw [hT _ rfl]; unfold ntsM cfM; rw [if_neg he, List.nil_append]
    exact ⟨u, _, rfl, hmap, ⟨row_lows k1 (Nat.zero_le _), ntTail (nts_R hv) _ rfl fun z hz => by rw [← hmap]; exact List.mem_map_of_mem hz⟩, k4⟩
theorem row_butD {T : TypeId} {sz k : Nat} {v : Value} {xs : List Value} {T' : TypeId} {cs : Array Value} (h : w.ownsRow 0 T sz v k xs) (hb : Blk w b T' cs) (hT : T ≠ T') (hB : But (fun q => q = b) w x) : x.ownsRow 0 T sz v k xs :=
  own_but h hB (fun i hi hS => own_neT h hb hT (by rw [hi, show i = b from hS]))
theorem mdMk (hb : Blk w b 50 #[.int .i64 0, .slice none 0 0, .int .u64 0, .slice none 0 0, .int .u64 0, .slice none 0 0, .int .i64 0, .int .i64 0, .int .i64 0, .int .i64 0, .int .i64 0, .int .i64 0, .int .i64 0, .int .i64 0, .int .i64 0, .int .i64 0, .int .i64 0, .int .i64 0, .int .i64 0]) : MdO w b msZ :=
  ⟨_, _, _, hb, World.ownsRow_nil _ _ _ _, World.ownsRow_nil _ _ _ _, World.ownsRow_nil _ _ _ _, Nat.zero_le _⟩
theorem mdApply (w : World) (mv lv ev : Value) (h : MdO w b s) (hv : VaM s) (hm : SliceOf memE 2 w mv d.ms) (hg : SliceOf (intE .i64) 1 w lv d.lg) (he : SliceOf opE 3 w ev d.el) (hR : NoteR d)
    (hbm : d.ms ≠ [] → ∀ k, mv.ownBlock = some k → ¬ k = b) (hbg : d.lg ≠ [] → ∀ k, lv.ownBlock = some k → ¬ k = b) (hbe : d.el ≠ [] → ∀ k, ev.ownBlock = some k → ¬ k = b) :
    Calls Try.prog 10 #[pt b 0, .agg #[.int .i64 d.k, .int .i64 d.n, .int .u64 d.t, .int .i64 d.ep, mv, .int .u64 d.fl, lv, .int .i64 d.ec, .int .i64 d.er, ev, .int .u64 d.ets, .int .i64 d.pid, .int .u64 d.pat, .int .i64 d.plf, .int .i64 d.sc, .int .i64 d.sr, .int .i64 d.se, .int .i64 d.sp]] w fun e w' => e = .returned (.int .i64 (apM d s).1) ∧ MdO w' b (apM d s).2 ∧ But (fun q => q = b) w w' := by
  obtain ⟨cv, lgv, pv, h1, h2, h3, h4, h5⟩ := h
  have hln : s.ms.length ≤ 20 ∧ s.lg.length ≤ 100 := ⟨hv.ms20, by have := hv.lg4; omega⟩
  by_cases q0 : chkN d ≠ 0
  · have hA : apM d s = (chkN d, s) := by unfold apM; rw [if_pos q0]
    rw [hA]
    refine (dcApplyE b s.ep cv s.fl lgv s.hz pv s.tp s.x0.2 s.x1.2 s.x2.2 d mv lv ev w h1 hm hg he hR hbm hbg hbe q0).mono ?_
    rintro e x ⟨rfl, k1, k2⟩
    exact ⟨rfl, ⟨_, _, _, k1, row_butD h2 h1 (by decide) k2, row_butD h3 h1 (by decide) k2, row_butD h4 h1 (by decide) k2, h5⟩, k2⟩
  by_cases q1 : d.k = 1
  · have hA : apM d s = ((ap1 s.ep s.fl s.ms s.lg d).1, { s with ep := (ap1 s.ep s.fl s.ms s.lg d).2.1, fl := (ap1 s.ep s.fl s.ms s.lg d).2.2.1, ms := (ap1 s.ep s.fl s.ms s.lg d).2.2.2.1, lg := (ap1 s.ep s.fl s.ms s.lg d).2.2.2.2 }) := by unfold apM; rw [if_neg q0, if_pos q1]
    rw [hA, ← doc1_eq q1]
    refine (dcApply1 b s.ep cv s.fl lgv s.hz pv s.tp s.x0.2 s.x1.2 s.x2.2 s.ms s.lg d mv lv ev w h1 h2 h3 hm hg he hR hbm hbg hbe q1 hln).mono ?_
    rintro e x ⟨cv2, lv2, rfl, k1, k2, k3, k4⟩
    exact ⟨rfl, ⟨_, _, _, k1, k2, k3, row_butD h4 h1 (by decide) k4, h5⟩, k4⟩
  by_cases q5 : d.k = 5
  · have hA : apM d s = ((ap5 s.ms s.lg d).1, { s with lg := (ap5 s.ms s.lg d).2 }) := by unfold apM; rw [if_neg q0, if_neg q1, if_pos q5]
    rw [hA, ← doc5_eq' hv q5]
    refine (dcApply5 b s.ep cv s.fl lgv s.hz pv s.tp s.x0.2 s.x1.2 s.x2.2 s.ms s.lg d mv lv ev w h1 h2 h3 hm hg he hR hbm hbg hbe q5 hln).mono ?_
    rintro e x ⟨lv2, rfl, k1, k3, k4⟩
    exact ⟨rfl, ⟨_, _, _, k1, row_butD h2 h1 (by decide) k4, k3, row_butD h4 h1 (by decide) k4, h5⟩, k4⟩
  by_cases q8 : d.k = 8
  · have hc := ((chkN_ok (d := d) (by omega)).2.2.2.2.2 q8).1
    by_cases c0 : d.sc = 0
    · have hA : apM d s = ((sdF s.x0 d).1, { s with x0 := (sdF s.x0 d).2 }) := by unfold apM; rw [if_neg q0, if_neg q1, if_neg q5, if_pos q8, if_pos c0]
      have hS := docS_eq s.x0 d
      rw [hA]
      refine (dcApply80 b s.ep cv s.fl lgv s.hz pv s.tp s.x0.2 s.x1.2 s.x2.2 d mv lv ev w h1 hm hg he hR hbm hbg hbe q8 c0).mono ?_
      rintro e x ⟨rfl, k1, k2⟩
      rw [hS] at k1
      exact ⟨by rw [hS], ⟨_, _, _, k1, row_butD h2 h1 (by decide) k2, row_butD h3 h1 (by decide) k2, row_butD h4 h1 (by decide) k2, h5⟩, k2⟩
    by_cases c1 : d.sc = 1
    · have hA : apM d s = ((sdF s.x1 d).1, { s with x1 := (sdF s.x1 d).2 }) := by unfold apM; rw [if_neg q0, if_neg q1, if_neg q5, if_pos q8, if_neg c0, if_pos c1]
      have hS := docS_eq s.x1 d
      rw [hA]
      refine (dcApply81 b s.ep cv s.fl lgv s.hz pv s.tp s.x0.2 s.x1.2 s.x2.2 d mv lv ev w h1 hm hg he hR hbm hbg hbe q8 c1).mono ?_
      rintro e x ⟨rfl, k1, k2⟩
      rw [hS] at k1
      exact ⟨by rw [hS], ⟨_, _, _, k1, row_butD h2 h1 (by decide) k2, row_butD h3 h1 (by decide) k2, row_butD h4 h1 (by decide) k2, h5⟩, k2⟩
    · have hA : apM d s = ((sdF s.x2 d).1, { s with x2 := (sdF s.x2 d).2 }) := by unfold apM; rw [if_neg q0, if_neg q1, if_neg q5, if_pos q8, if_neg c0, if_neg c1]
      have hS := docS_eq s.x2 d
      rw [hA]
      refine (dcApply82 b s.ep cv s.fl lgv s.hz pv s.tp s.x0.2 s.x1.2 s.x2.2 d mv lv ev w h1 hm hg he hR hbm hbg hbe q8 (by omega)).mono ?_
      rintro e x ⟨rfl, k1, k2⟩
      rw [hS] at k1
      exact ⟨by rw [hS], ⟨_, _, _, k1, row_butD h2 h1 (by decide) k2, row_butD h3 h1 (by decide) k2, row_butD h4 h1 (by decide) k2, h5⟩, k2⟩
  · have hA : apM d s = ((apF s.pn s.hz s.tp d).1, { s with hz := (apF s.pn s.hz s.tp d).2.1, pn := (apF s.pn s.hz s.tp d).2.2.1, tp := (apF s.pn s.hz s.tp d).2.2.2 }) := by unfold apM; rw [if_neg q0, if_neg q1, if_neg q5, if_neg q8]
    have h3' := (hv.ap hR).pn3
    rw [hA] at h3' ⊢
    rw [← docF_eq hv] at h3' ⊢
    refine (dcApplyP b s.ep cv s.fl lgv s.hz pv s.pn s.tp s.x0.2 s.x1.2 s.x2.2 d mv lv ev w h1 h4 h5 hm hg he hR hbm hbg hbe ⟨q1, q5, q8⟩).mono ?_
    rintro e x ⟨pv2, rfl, k1, k2, k4⟩
    exact ⟨rfl, ⟨_, _, _, k1, row_butD h2 h1 (by decide) k4, row_butD h3 h1 (by decide) k4, k2, h3'⟩, k4⟩
theorem moSaid0 (h : MsO w b s) : Calls Try.prog 35 #[pt b 0, .int .i64 0] w fun e w' => e = .returned (.agg #[.int .i64 s.x0.2.1, .int .i64 s.x0.2.2.1, .int .i64 s.x0.2.2.2.1, .int .i64 s.x0.2.2.2.2]) ∧ Below w.heap.size w w' := by
  obtain ⟨cv, lgv, pv, h1, h2, h3, h4, h5⟩ := h
  exact msSaid0 b s.ep cv s.fl lgv s.hz pv s.tp s.x0 s.x1 s.x2 w h1
theorem moSaid1 (h : MsO w b s) : Calls Try.prog 35 #[pt b 0, .int .i64 1] w fun e w' => e = .returned (.agg #[.int .i64 s.x1.2.1, .int .i64 s.x1.2.2.1, .int .i64 s.x1.2.2.2.1, .int .i64 s.x1.2.2.2.2]) ∧ Below w.heap.size w w' := by
  obtain ⟨cv, lgv, pv, h1, h2, h3, h4, h5⟩ := h
  exact msSaid1 b s.ep cv s.fl lgv s.hz pv s.tp s.x0 s.x1 s.x2 w h1
theorem moSaid2 (h : MsO w b s) : Calls Try.prog 35 #[pt b 0, .int .i64 2] w fun e w' => e = .returned (.agg #[.int .i64 s.x2.2.1, .int .i64 s.x2.2.2.1, .int .i64 s.x2.2.2.2.1, .int .i64 s.x2.2.2.2.2]) ∧ Below w.heap.size w w' := by
  obtain ⟨cv, lgv, pv, h1, h2, h3, h4, h5⟩ := h
  exact msSaid2 b s.ep cv s.fl lgv s.hz pv s.tp s.x0 s.x1 s.x2 w h1
theorem moSaidX (c : Int) (h : MsO w b s) (hc : c < 0 ∨ c ≥ 3) : Calls Try.prog 35 #[pt b 0, .int .i64 c] w fun e w' => e = .returned (.agg #[.int .i64 0, .int .i64 0, .int .i64 0, .int .i64 0]) ∧ Below w.heap.size w w' := by
  obtain ⟨cv, lgv, pv, h1, h2, h3, h4, h5⟩ := h
  exact msSaidX b s.ep cv s.fl lgv s.hz pv s.tp s.x0 s.x1 s.x2 c w h1 hc
theorem moTop (h : MsO w b s) : Calls Try.prog 18 #[pt b 0] w fun e w' => e = .returned (.int .i64 s.tp) ∧ Below w.heap.size w w' := by
  obtain ⟨cv, lgv, pv, h1, h2, h3, h4, h5⟩ := h
  exact msTop_any b s.ep cv s.fl lgv s.hz pv s.tp s.x0 s.x1 s.x2 w h1
end
end Go.Proofs.Ytnjbnndpbegkdaa

/- catenalaw28: awake, Parts of one note. Conditions: none. -/
namespace Go.Proofs.Ytnjbnndpbegkdaa
open Go.RowKit Go.PlainAid
set_option linter.unusedVariables false
set_option linter.unusedSimpArgs false

theorem eq_said (a b c d e f g h : Int) (w : World) : (binOp .eql 42 (.agg #[.int .i64 a, .int .i64 b, .int .i64 c, .int .i64 d]) (.agg #[.int .i64 e, .int .i64 f, .int .i64 g, .int .i64 h])).run Try.prog w = .ok (.bool (a == e && b == f && c == g && d == h)) w := by
  have u := Try.underlying3
  have u' := Try.underlying27
  have hS : Try.prog.underlying 42 = some (.struct (Try.prog.fieldsOf 42)) := by kernel_rfl
  have hp : Try.prog.stoodInHeld 42 = false := by kernel_rfl
  have hf : (Try.prog.fieldsOf 42).toList.map (fun f => (f.offset, f.type)) = [(0, 3), (1, 3), (2, 27), (3, 3)] := by kernel_rfl
  rw [run_eql_struct, show (10000 : Nat) = 9999 + 1 from rfl, run_equalIn_agg w 9999 42 _ _ hS hp]
  simp only [Program.fieldsOf, Try.underlying42]
  go_simp
  by_cases h1 : a = e <;> by_cases h2 : b = f <;> by_cases h3 : c = g <;> by_cases h4 : d = h <;> simp [h1, h2, h3, h4]

def dP : NoteD := ⟨6, 0, 0, 0, [], 0, [], 0, 0, [], 0, 1, 5, 0, 0, 0, 0, 0⟩
def dU : NoteD := ⟨7, 1, 0, 0, [], 0, [], 0, 0, [], 0, 0, 0, 0, 0, 0, 0, 0⟩
def dE : NoteD := ⟨2, 0, 0, 0, [], 0, [], 0, 1, [], 0, 0, 0, 0, 0, 0, 0, 0⟩
theorem dX_R (d : NoteD) (h : d = dP ∨ d = dU ∨ d = dE) : NoteR d := by
  rcases h with rfl | rfl | rfl <;> exact ⟨(fun m hm => by cases hm), by decide⟩
theorem aw1 : apF [] 0 0 dP = (0, 0, [(1, 5, 8)], 1) := by decide +kernel
theorem aw2 : apF [(1, 5, 8)] 0 1 dU = (0, 0, [], 1) := by decide +kernel
theorem aw3 : apF [] 0 1 dE = (11, 0, [], 1) := by decide +kernel

set_option maxRecDepth 100000 in
set_option maxHeartbeats 1600000 in
theorem awake28  (w : World)  :
    Calls Try.prog 6 #[] w fun e w' => e = .returned (.bool true) ∧ Below w.heap.size w w' := by
 obtain ⟨P0, hP0⟩ : ∃ l : List PinT, l = [] := ⟨_, rfl⟩
 have hP0l : P0.length = 0 := by rw [hP0]; rfl
 have hB0 := Below.refl w.heap.size w
 refine co_enter (n := 37) Try.func6 rfl rfl rfl [] rfl (fun a h0 => ?_)
 refine co_seq ?_
 refine co_reg ?_
 refine pk0 (v := .bool false) h0 rfl fun a1 h1 => ?_; clear h0
 refine pl_nil ?_
 refine co_then ?_
 refine co_seq ?_
 refine co_reg ?_
 refine pw h1 rfl (op_call (args := #[]) (R := fun res xw => ∃ N : Nat, res = pt N 0 ∧ Blk xw N 66 #[.bool true, .int .i64 0, .slice none 0 0, .int .u64 0, .slice none 0 0, .int .u64 0, .slice none 0 0, .int .i64 0, .bool false, .int .i64 0, .int .i64 0, .int .i64 0, .int .i64 0, .bool false, .int .i64 0, .int .i64 0, .int .i64 0, .int .i64 0, .bool false, .int .i64 0, .int .i64 0, .int .i64 0, .int .i64 0] ∧ w.heap.size ≤ N ∧ Below w.heap.size w xw) rfl rfl rfl (by kernel_rfl) (by kernel_rfl) (Try.call7 _ _) (msNew_any  w ) (by rintro e x ⟨N, rfl, hq5, hq6, hb7⟩; exact ⟨_, rfl, ⟨N, rfl, hq5, hq6, hb7⟩⟩)) ?_; clear h1
 rintro _ w3 a2 ⟨N4, rfl, hq5, hq6, hb7⟩ h2
 have hz8 := hb7.size
 have hl9 := hq5.lt
 refine pk0 (v := pt N4 0) h2 rfl fun a10 h10 => ?_; clear h2
 refine pl_nil ?_
 refine co_then ?_
 refine co_seq ?_
 refine co_reg ?_
 refine pk0 (v := pt N4 0) h10 rfl fun a11 h11 => ?_; clear h10
 refine pk0 (v := .agg #[.int .i64 1, .int .u64 5, .int .i64 0]) h11 rfl fun a12 h12 => ?_; clear h11
 refine pk0 (v := .agg #[.int .i64 6, .int .i64 0, .int .u64 0, .int .i64 0, .slice none 0 0, .int .u64 0, .slice none 0 0, .int .i64 0, .int .i64 0, .slice none 0 0, .int .u64 0, .int .i64 1, .int .u64 5, .int .i64 0, .int .i64 0, .int .i64 0, .int .i64 0, .int .i64 0]) h12 rfl fun a13 h13 => ?_; clear h12
 have hB16 := hb_call hB0 hb7
 refine pw h13 rfl (op_call (args := #[pt N4 0, .agg #[.int .i64 6, .int .i64 0, .int .u64 0, .int .i64 0, .slice none 0 0, .int .u64 0, .slice none 0 0, .int .i64 0, .int .i64 0, .slice none 0 0, .int .u64 0, .int .i64 1, .int .u64 5, .int .i64 0, .int .i64 0, .int .i64 0, .int .i64 0, .int .i64 0]]) (R := fun res xw => ∃ pv2 : Value, res = .int .i64 ((apF ([] : List PinT) 0 0 dP).1) ∧ Blk xw N4 66 #[.bool true, .int .i64 0, (.slice none 0 0), .int .u64 0, (.slice none 0 0), .int .u64 ((apF ([] : List PinT) 0 0 dP).2.1), pv2, .int .i64 ((apF ([] : List PinT) 0 0 dP).2.2.2), .bool (false, 0, 0, 0, 0).1, .int .i64 (false, 0, 0, 0, 0).2.1, .int .i64 (false, 0, 0, 0, 0).2.2.1, .int .i64 (false, 0, 0, 0, 0).2.2.2.1, .int .i64 (false, 0, 0, 0, 0).2.2.2.2, .bool (false, 0, 0, 0, 0).1, .int .i64 (false, 0, 0, 0, 0).2.1, .int .i64 (false, 0, 0, 0, 0).2.2.1, .int .i64 (false, 0, 0, 0, 0).2.2.2.1, .int .i64 (false, 0, 0, 0, 0).2.2.2.2, .bool (false, 0, 0, 0, 0).1, .int .i64 (false, 0, 0, 0, 0).2.1, .int .i64 (false, 0, 0, 0, 0).2.2.1, .int .i64 (false, 0, 0, 0, 0).2.2.2.1, .int .i64 (false, 0, 0, 0, 0).2.2.2.2] ∧ xw.ownsRow 0 40 3 pv2 ((apF ([] : List PinT) 0 0 dP).2.2.1).length (((apF ([] : List PinT) 0 0 dP).2.2.1).flatMap pinE) ∧ ((apF ([] : List PinT) 0 0 dP).2.2.1).length ≤ 3 ∧ But (fun q => q = N4) w3 xw) rfl rfl rfl (by kernel_rfl) (by kernel_rfl) (Try.call8 _ _) (msApplyP_any N4 0 (.slice none 0 0) 0 (.slice none 0 0) 0 (.slice none 0 0) ([] : List PinT) 0 (false, 0, 0, 0, 0) (false, 0, 0, 0, 0) (false, 0, 0, 0, 0) dP (.slice none 0 0) (.slice none 0 0) (.slice none 0 0) w3 hq5 (World.ownsRow_nil _ _ _ _) (by decide) (sl_nil _) (sl_nil _) (sl_nil _) (dX_R _ (.inl rfl)) (fun h => absurd rfl h) (fun h => absurd rfl h) (fun h => absurd rfl h) (by decide)) (by rintro e x ⟨pv2, rfl, hq18, hq19, hq20, hb21⟩; exact ⟨_, rfl, ⟨pv2, rfl, hq18, hq19, hq20, hb21⟩⟩)) ?_; clear h13
 rintro _ w15 a14 ⟨pv217, rfl, hq18, hq19, hq20, hb21⟩ h14
 have hz22 := hb21.size
 rw [aw1] at hq18 hq19
 have hl23 := hq18.lt
 have ha24 : (apF ([] : List PinT) 0 0 dP).1 = 0 := by rw [aw1]
 refine pk0 (v := .int .i64 0) h14 rfl fun a25 h25 => ?_; clear h14
 refine pl_nil ?_
 refine co_then ?_
 refine co_seq ?_
 refine co_reg ?_
 refine pk0 (v := pt N4 0) h25 rfl fun a26 h26 => ?_; clear h25
 refine pk0 (v := .agg #[.int .i64 7, .int .i64 1, .int .u64 0, .int .i64 0, .slice none 0 0, .int .u64 0, .slice none 0 0, .int .i64 0, .int .i64 0, .slice none 0 0, .int .u64 0, .int .i64 0, .int .u64 0, .int .i64 0, .int .i64 0, .int .i64 0, .int .i64 0, .int .i64 0]) h26 rfl fun a27 h27 => ?_; clear h26
 have hB30 := hb_foot hB16 hb21 (fun i hlt hS => by (try simp at hS); first | omega | (simp; omega) | simp_all)
 refine pw h27 rfl (op_call (args := #[pt N4 0, .agg #[.int .i64 7, .int .i64 1, .int .u64 0, .int .i64 0, .slice none 0 0, .int .u64 0, .slice none 0 0, .int .i64 0, .int .i64 0, .slice none 0 0, .int .u64 0, .int .i64 0, .int .u64 0, .int .i64 0, .int .i64 0, .int .i64 0, .int .i64 0, .int .i64 0]]) (R := fun res xw => ∃ pv2 : Value, res = .int .i64 ((apF ([(1, 5, 8)] : List PinT) 0 1 dU).1) ∧ Blk xw N4 66 #[.bool true, .int .i64 0, (.slice none 0 0), .int .u64 0, (.slice none 0 0), .int .u64 ((apF ([(1, 5, 8)] : List PinT) 0 1 dU).2.1), pv2, .int .i64 ((apF ([(1, 5, 8)] : List PinT) 0 1 dU).2.2.2), .bool (false, 0, 0, 0, 0).1, .int .i64 (false, 0, 0, 0, 0).2.1, .int .i64 (false, 0, 0, 0, 0).2.2.1, .int .i64 (false, 0, 0, 0, 0).2.2.2.1, .int .i64 (false, 0, 0, 0, 0).2.2.2.2, .bool (false, 0, 0, 0, 0).1, .int .i64 (false, 0, 0, 0, 0).2.1, .int .i64 (false, 0, 0, 0, 0).2.2.1, .int .i64 (false, 0, 0, 0, 0).2.2.2.1, .int .i64 (false, 0, 0, 0, 0).2.2.2.2, .bool (false, 0, 0, 0, 0).1, .int .i64 (false, 0, 0, 0, 0).2.1, .int .i64 (false, 0, 0, 0, 0).2.2.1, .int .i64 (false, 0, 0, 0, 0).2.2.2.1, .int .i64 (false, 0, 0, 0, 0).2.2.2.2] ∧ xw.ownsRow 0 40 3 pv2 ((apF ([(1, 5, 8)] : List PinT) 0 1 dU).2.2.1).length (((apF ([(1, 5, 8)] : List PinT) 0 1 dU).2.2.1).flatMap pinE) ∧ ((apF ([(1, 5, 8)] : List PinT) 0 1 dU).2.2.1).length ≤ 3 ∧ But (fun q => q = N4) w15 xw) rfl rfl rfl (by kernel_rfl) (by kernel_rfl) (Try.call8 _ _) (msApplyP_any N4 0 (.slice none 0 0) 0 (.slice none 0 0) 0 pv217 ([(1, 5, 8)] : List PinT) 1 (false, 0, 0, 0, 0) (false, 0, 0, 0, 0) (false, 0, 0, 0, 0) dU (.slice none 0 0) (.slice none 0 0) (.slice none 0 0) w15 hq18 hq19 (by decide) (sl_nil _) (sl_nil _) (sl_nil _) (dX_R _ (.inr (.inl rfl))) (fun h => absurd rfl h) (fun h => absurd rfl h) (fun h => absurd rfl h) (by decide)) (by rintro e x ⟨pv2, rfl, hq32, hq33, hq34, hb35⟩; exact ⟨_, rfl, ⟨pv2, rfl, hq32, hq33, hq34, hb35⟩⟩)) ?_; clear h27
 rintro _ w29 a28 ⟨pv231, rfl, hq32, hq33, hq34, hb35⟩ h28
 have hz36 := hb35.size
 rw [aw2] at hq32 hq33
 have hl37 := hq32.lt
 have hr38 : w29.ownsRow 0 40 3 pv231 P0.length (P0.flatMap pinE) := by rw [hP0]; exact hq33
 have ha39 : (apF ([(1, 5, 8)] : List PinT) 0 1 dU).1 = 0 := by rw [aw2]
 refine pk0 (v := .int .i64 0) h28 rfl fun a40 h40 => ?_; clear h28
 refine pl_nil ?_
 refine co_then ?_
 refine co_seq ?_
 refine co_reg ?_
 refine pk0 (v := .int .i64 0) h40 rfl fun a41 h41 => ?_; clear h40
 refine pk0 (v := .bool ((0 : Int) == 0)) h41 rfl fun a42 h42 => ?_; clear h41
 refine pk0 (v := .bool ((0 : Int) == 0)) h42 rfl fun a43 h43 => ?_; clear h42
 have hc44 : ((0 : Int) == 0) = true := by first | (simp; done) | (simp; omega) | exact beq_false_of_ne (by omega) | exact beq_iff_eq.2 (by omega)
 rw [hc44] at h43; clear hc44
 refine pk0 (v := .int .i64 0) h43 rfl fun a45 h45 => ?_; clear h43
 refine pk0 (v := .bool ((0 : Int) == 0)) h45 rfl fun a46 h46 => ?_; clear h45
 refine pk0 (v := .bool ((0 : Int) == 0)) h46 rfl fun a47 h47 => ?_; clear h46
 refine pk0 (v := .bool ((0 : Int) == 0)) h47 rfl fun a48 h48 => ?_; clear h47
 have hc49 : ((0 : Int) == 0) = true := by first | (simp; done) | (simp; omega) | exact beq_false_of_ne (by omega) | exact beq_iff_eq.2 (by omega)
 rw [hc49] at h48; clear hc49
 refine pk0 (v := pt N4 0) h48 rfl fun a50 h50 => ?_; clear h48
 have hB53 := hb_foot hB30 hb35 (fun i hlt hS => by (try simp at hS); first | omega | (simp; omega) | simp_all)
 refine pw h50 rfl (op_call (args := #[pt N4 0]) (R := fun res xw => ∃ u : Value, res = u ∧ xw.ownsRow w29.heap.size 40 3 u P0.length (P0.flatMap pinE) ∧ Below w29.heap.size w29 xw) rfl rfl rfl (by kernel_rfl) (by kernel_rfl) (Try.call14 _ _) (msPins_any N4 0 (.slice none 0 0) 0 (.slice none 0 0) 0 pv231 P0 1 (false, 0, 0, 0, 0) (false, 0, 0, 0, 0) (false, 0, 0, 0, 0) w29 hq32 (row_lows hr38 (Nat.zero_le _)) (by rw [hP0]; decide)) (by rintro e x ⟨u, rfl, hq55, hb56⟩; exact ⟨_, rfl, ⟨u, rfl, hq55, hb56⟩⟩)) ?_; clear h50
 rintro u54 w52 a51 ⟨_, rfl, hq55, hb56⟩ h51
 have hz57 := hb56.size
 have hl58 := sl_len (row_sl hq55 pinE_len)
 refine pk (v := .int .i64 ((P0.length : Nat) : Int)) h51 rfl (rn_lenOwn rfl rfl Try.underlying47 hq55) fun a59 h59 => ?_; clear h51
 refine pk0 (v := .bool (((P0.length : Nat) : Int) == 0)) h59 rfl fun a60 h60 => ?_; clear h59
 refine pk0 (v := .bool (((P0.length : Nat) : Int) == 0)) h60 rfl fun a61 h61 => ?_; clear h60
 refine pk0 (v := .bool (((P0.length : Nat) : Int) == 0)) h61 rfl fun a62 h62 => ?_; clear h61
 have hc63 : (((P0.length : Nat) : Int) == 0) = true := by first | (simp; done) | (simp; omega) | exact beq_false_of_ne (by omega) | exact beq_iff_eq.2 (by omega)
 rw [hc63] at h62; clear hc63
 refine pk0 (v := pt N4 0) h62 rfl fun a64 h64 => ?_; clear h62
 have hk67 := hq32.below hb56
 refine pw h64 rfl (op_call (args := #[pt N4 0]) (R := fun res xw => res = .int .i64 1 ∧ Below w52.heap.size w52 xw) rfl rfl rfl (by kernel_rfl) (by kernel_rfl) (Try.call18 _ _) (msTop_any N4 0 (.slice none 0 0) 0 (.slice none 0 0) 0 pv231 1 (false, 0, 0, 0, 0) (false, 0, 0, 0, 0) (false, 0, 0, 0, 0) w52 hk67) (by rintro e x ⟨rfl, hb68⟩; exact ⟨_, rfl, ⟨rfl, hb68⟩⟩)) ?_; clear h64
 rintro _ w66 a65 ⟨rfl, hb68⟩ h65
 have hz69 := hb68.size
 refine pk0 (v := .bool ((1 : Int) == 1)) h65 rfl fun a70 h70 => ?_; clear h65
 refine pk0 (v := .bool ((1 : Int) == 1)) h70 rfl fun a71 h71 => ?_; clear h70
 refine pk0 (v := .bool ((1 : Int) == 1)) h71 rfl fun a72 h72 => ?_; clear h71
 have hc73 : ((1 : Int) == 1) = true := by first | (simp; done) | (simp; omega) | exact beq_false_of_ne (by omega) | exact beq_iff_eq.2 (by omega)
 rw [hc73] at h72; clear hc73
 refine pk0 (v := pt N4 0) h72 rfl fun a74 h74 => ?_; clear h72
 refine pk0 (v := .agg #[.int .i64 0, .int .i64 1, .slice none 0 0]) h74 rfl fun a75 h75 => ?_; clear h74
 refine pk0 (v := .agg #[.int .i64 0, .int .i64 1, .slice none 0 0, .int .u64 0]) h75 rfl fun a76 h76 => ?_; clear h75
 refine pk0 (v := .agg #[.int .i64 2, .int .i64 0, .int .u64 0, .int .i64 0, .slice none 0 0, .int .u64 0, .slice none 0 0, .int .i64 0, .int .i64 1, .slice none 0 0, .int .u64 0, .int .i64 0, .int .u64 0, .int .i64 0, .int .i64 0, .int .i64 0, .int .i64 0, .int .i64 0]) h76 rfl fun a77 h77 => ?_; clear h76
 have hB80 := hb_call hB53 hb56
 have hB81 := hb_call hB80 hb68
 have hr82 := row_kept_new hr38 (below_grown hb56)
 have hr83 := row_kept_new hr82 (below_grown hb68)
 have hk84 := hk67.below hb68
 refine pw h77 rfl (op_call (args := #[pt N4 0, .agg #[.int .i64 2, .int .i64 0, .int .u64 0, .int .i64 0, .slice none 0 0, .int .u64 0, .slice none 0 0, .int .i64 0, .int .i64 1, .slice none 0 0, .int .u64 0, .int .i64 0, .int .u64 0, .int .i64 0, .int .i64 0, .int .i64 0, .int .i64 0, .int .i64 0]]) (R := fun res xw => ∃ pv2 : Value, res = .int .i64 ((apF ([] : List PinT) 0 1 dE).1) ∧ Blk xw N4 66 #[.bool true, .int .i64 0, (.slice none 0 0), .int .u64 0, (.slice none 0 0), .int .u64 ((apF ([] : List PinT) 0 1 dE).2.1), pv2, .int .i64 ((apF ([] : List PinT) 0 1 dE).2.2.2), .bool (false, 0, 0, 0, 0).1, .int .i64 (false, 0, 0, 0, 0).2.1, .int .i64 (false, 0, 0, 0, 0).2.2.1, .int .i64 (false, 0, 0, 0, 0).2.2.2.1, .int .i64 (false, 0, 0, 0, 0).2.2.2.2, .bool (false, 0, 0, 0, 0).1, .int .i64 (false, 0, 0, 0, 0).2.1, .int .i64 (false, 0, 0, 0, 0).2.2.1, .int .i64 (false, 0, 0, 0, 0).2.2.2.1, .int .i64 (false, 0, 0, 0, 0).2.2.2.2, .bool (false, 0, 0, 0, 0).1, .int .i64 (false, 0, 0, 0, 0).2.1, .int .i64 (false, 0, 0, 0, 0).2.2.1, .int .i64 (false, 0, 0, 0, 0).2.2.2.1, .int .i64 (false, 0, 0, 0, 0).2.2.2.2] ∧ xw.ownsRow 0 40 3 pv2 ((apF ([] : List PinT) 0 1 dE).2.2.1).length (((apF ([] : List PinT) 0 1 dE).2.2.1).flatMap pinE) ∧ ((apF ([] : List PinT) 0 1 dE).2.2.1).length ≤ 3 ∧ But (fun q => q = N4) w66 xw) rfl rfl rfl (by kernel_rfl) (by kernel_rfl) (Try.call8 _ _) (msApplyP_any N4 0 (.slice none 0 0) 0 (.slice none 0 0) 0 pv231 ([] : List PinT) 1 (false, 0, 0, 0, 0) (false, 0, 0, 0, 0) (false, 0, 0, 0, 0) dE (.slice none 0 0) (.slice none 0 0) (.slice none 0 0) w66 hk84 (by rw [hP0] at hr83; exact hr83) (by decide) (sl_nil _) (sl_nil _) (sl_nil _) (dX_R _ (.inr (.inr rfl))) (fun h => absurd rfl h) (fun h => absurd rfl h) (fun h => absurd rfl h) (by decide)) (by rintro e x ⟨pv2, rfl, hq86, hq87, hq88, hb89⟩; exact ⟨_, rfl, ⟨pv2, rfl, hq86, hq87, hq88, hb89⟩⟩)) ?_; clear h77
 rintro _ w79 a78 ⟨pv285, rfl, hq86, hq87, hq88, hb89⟩ h78
 have hz90 := hb89.size
 rw [aw3] at hq86 hq87
 have hl91 := hq86.lt
 have hr92 : w79.ownsRow 0 40 3 pv285 P0.length (P0.flatMap pinE) := by rw [hP0]; exact hq87
 have ha93 : (apF ([] : List PinT) 0 1 dE).1 = 11 := by rw [aw3]
 refine pk0 (v := .bool ((11 : Int) == 11)) h78 rfl fun a94 h94 => ?_; clear h78
 refine pk0 (v := .bool ((11 : Int) == 11)) h94 rfl fun a95 h95 => ?_; clear h94
 refine pk0 (v := .bool ((11 : Int) == 11)) h95 rfl fun a96 h96 => ?_; clear h95
 refine pl_nil ?_
 refine co_then ?_
 refine wp_ret ?_
 refine co_ret1 h96 rfl rfl ?_
 have hB97 := hb_foot hB81 hb89 (fun i hlt hS => by (try simp at hS); first | omega | (simp; omega) | simp_all)
 exact ⟨rfl, hB97⟩
end Go.Proofs.Ytnjbnndpbegkdaa

/- catenalaw28: Same of two states that stand alike. Conditions: none. -/
namespace Go.Proofs.Ytnjbnndpbegkdaa
open Go.RowKit Go.PlainAid
set_option linter.unusedVariables false
set_option linter.unusedSimpArgs false

set_option maxRecDepth 100000 in
set_option maxHeartbeats 3200000 in
theorem same28_any (b : Nat) (s : MsT) (d : Nat) (cv : Value) (lgv : Value) (pv : Value) (w : World) (hS : MsO w b s) (hd : Blk w d 50 #[.int .i64 s.ep, cv, .int .u64 s.fl, lgv, .int .u64 s.hz, pv, .int .i64 s.tp, .int .i64 s.x0.2.1, .int .i64 s.x0.2.2.1, .int .i64 s.x0.2.2.2.1, .int .i64 s.x0.2.2.2.2, .int .i64 s.x1.2.1, .int .i64 s.x1.2.2.1, .int .i64 s.x1.2.2.2.1, .int .i64 s.x1.2.2.2.2, .int .i64 s.x2.2.1, .int .i64 s.x2.2.2.1, .int .i64 s.x2.2.2.2.1, .int .i64 s.x2.2.2.2.2]) (hcv : w.ownsRow 0 102 2 cv s.ms.length (s.ms.flatMap memE)) (hlg : w.ownsRow 0 3 1 lgv s.lg.length (s.lg.flatMap (intE .i64))) (hpn : w.ownsRow 0 40 3 pv s.pn.length (s.pn.flatMap pinE)) (hv : VaM s) :
    Calls Try.prog 11 #[pt b 0, pt d 0] w fun e w' => e = .returned (.int .i64 1) ∧ Below w.heap.size w w' := by
 have hB0 := Below.refl w.heap.size w
 have hl_hd := hd.lt
 have hu_cv := fun i (hi : Value.ownBlock cv = some i) => (hcv.lt i hi).2
 have hu_lgv := fun i (hi : Value.ownBlock lgv = some i) => (hlg.lt i hi).2
 have hu_pv := fun i (hi : Value.ownBlock pv = some i) => (hpn.lt i hi).2
 refine co_enter (n := 63) Try.func11 rfl rfl rfl [(0, pt b 0), (1, pt d 0)] rfl (fun a h0 => ?_)
 refine co_seq ?_
 refine co_reg ?_
 refine pk0 (v := .int .i64 0) h0 rfl fun a1 h1 => ?_; clear h0
 refine pl_nil ?_
 refine co_then ?_
 refine co_seq ?_
 refine co_seq ?_
 refine dr_gen (fun x => Below w.heap.size w x ∧ Blk x d 50 #[.int .i64 s.ep, cv, .int .u64 s.fl, lgv, .int .u64 s.hz, pv, .int .i64 s.tp, .int .i64 s.x0.2.1, .int .i64 s.x0.2.2.1, .int .i64 s.x0.2.2.2.1, .int .i64 s.x0.2.2.2.2, .int .i64 s.x1.2.1, .int .i64 s.x1.2.2.1, .int .i64 s.x1.2.2.2.1, .int .i64 s.x1.2.2.2.2, .int .i64 s.x2.2.1, .int .i64 s.x2.2.2.1, .int .i64 s.x2.2.2.2.1, .int .i64 s.x2.2.2.2.2] ∧ MsO x b s) (by kernel_rfl) (fun w2 hg3 => ?_) (fun w2 hg3 => ?_)
 ·
  have hz4 := hg3.size
  have hB5 := hb_new hB0 hg3
  have hk6 := hd.kept hg3 (by simp)
  have hX7 := MsO.new hS hg3
  exact ⟨hB5, hk6, hX7⟩
 have hz8 := hg3.size
 have hB9 := hb_new hB0 hg3
 have hk10 := hd.kept hg3 (by simp)
 have hX11 := MsO.new hS hg3
 refine dk0 0 (v := pt b 0) h1 rfl rfl ⟨hB9, hk10, hX11⟩ fun a12 h12 => ?_; clear h1
 refine dk0 2 (v := pt d 0) h12 rfl rfl ⟨hB9, hk10, hX11⟩ fun a13 h13 => ?_; clear h12
 refine dk0 3 (v := pt d 0) h13 rfl rfl ⟨hB9, hk10, hX11⟩ fun a14 h14 => ?_; clear h13
 refine dk0 4 (v := pt d 0) h14 rfl rfl ⟨hB9, hk10, hX11⟩ fun a15 h15 => ?_; clear h14
 refine dk 5 (v := .agg #[.int .i64 s.ep, cv, .int .u64 s.fl]) h15 rfl rfl ⟨hB9, hk10, hX11⟩ (fun x hx => (rn_loadN rfl rfl Try.underlying32 rfl (by kernel_rfl) (blk_part hx.2.1 0 (by rfl)))) fun a16 h16 => ?_; clear h15
 refine d1 1 h16 rfl rfl (op_call (args := #[pt b 0]) (R := fun res xw => ∃ u : Value, res = .agg #[.int .i64 s.ep, u, .int .u64 s.fl] ∧ xw.ownsRow w2.heap.size 102 2 u s.ms.length (s.ms.flatMap memE) ∧ Below w2.heap.size w2 xw) rfl rfl rfl (by kernel_rfl) (by kernel_rfl) (Try.call13 _ _) (moConf hX11 hv.ms20) (by rintro e x ⟨u, h0, h⟩; exact ⟨_, h0, u, rfl, h⟩)) ?_ ?_; clear h16
 ·
  rintro _ w18 ⟨u19, rfl, hr20, hb21⟩
  have hz22 := hb21.size
  have hB23 := hb_call hB9 hb21
  have hk24 := hk10.below hb21
  have hX25 := MsO.below hX11 hb21
  exact ⟨hB23, hk24, hX25⟩
 rintro _ w18 a17 ⟨u19, rfl, hr20, hb21⟩ h17
 have hz22 := hb21.size
 have hB23 := hb_call hB9 hb21
 have hk24 := hk10.below hb21
 have hX25 := MsO.below hX11 hb21
 have hr28 := row_kept_new hpn hg3
 have hr29 := row_kept_new hr28 (below_grown hb21)
 have hr30 := row_kept_new hlg hg3
 have hr31 := row_kept_new hr30 (below_grown hb21)
 have hr32 := row_kept_new hcv hg3
 have hr33 := row_kept_new hr32 (below_grown hb21)
 refine d1 6 h17 rfl rfl (op_call (args := #[.agg #[.int .i64 s.ep, u19, .int .u64 s.fl], .agg #[.int .i64 s.ep, cv, .int .u64 s.fl]]) (R := fun res xw => res = .bool true ∧ Below w18.heap.size w18 xw) rfl rfl rfl (by kernel_rfl) (by kernel_rfl) (Try.call32 _ _) (wrsame_any s.ep u19 s.ms s.fl s.ep cv s.ms s.fl w18 (row_sl hr20 memE_len) hv.mem (by have := hv.ep; omega) hv.fl (row_sl hr33 memE_len) hv.mem (by have := hv.ep; omega) hv.fl) (by rintro e x ⟨h0, h⟩; rw [sameCf_refl] at h0; exact ⟨_, h0, rfl, h⟩)) ?_ ?_; clear h17
 ·
  rintro _ w27 ⟨rfl, hb34⟩
  have hz35 := hb34.size
  have hB36 := hb_call hB23 hb34
  have hk37 := hk24.below hb34
  have hX38 := MsO.below hX25 hb34
  exact ⟨hB36, hk37, hX38⟩
 rintro _ w27 a26 ⟨rfl, hb34⟩ h26
 have hz35 := hb34.size
 have hB36 := hb_call hB23 hb34
 have hk37 := hk24.below hb34
 have hX38 := MsO.below hX25 hb34
 refine dk0 7 (v := .bool false) h26 rfl rfl ⟨hB36, hk37, hX38⟩ fun a39 h39 => ?_; clear h26
 refine dk0 8 (v := .bool false) h39 rfl rfl ⟨hB36, hk37, hX38⟩ fun a40 h40 => ?_; clear h39
 refine dk0 9 (v := pt b 0) h40 rfl rfl ⟨hB36, hk37, hX38⟩ fun a41 h41 => ?_; clear h40
 refine dk0 11 (v := pt d 0) h41 rfl rfl ⟨hB36, hk37, hX38⟩ fun a42 h42 => ?_; clear h41
 refine dk0 12 (v := pt d 0) h42 rfl rfl ⟨hB36, hk37, hX38⟩ fun a43 h43 => ?_; clear h42
 refine dk0 13 (v := pt d 3) h43 rfl rfl ⟨hB36, hk37, hX38⟩ fun a44 h44 => ?_; clear h43
 refine dk 14 (v := lgv) h44 rfl rfl ⟨hB36, hk37, hX38⟩ (fun x hx => (rn_load1 rfl rfl Try.isAgg33 (hx.2.1.cell rfl))) fun a45 h45 => ?_; clear h44
 refine d1 10 h45 rfl rfl (op_call (args := #[pt b 0]) (R := fun res xw => ∃ u : Value, res = u ∧ xw.ownsRow w27.heap.size 3 1 u s.lg.length (s.lg.flatMap (intE .i64)) ∧ Below w27.heap.size w27 xw) rfl rfl rfl (by kernel_rfl) (by kernel_rfl) (Try.call16 _ _) (moLegit hX38 (by have := hv.lg4; omega)) (by rintro e x ⟨u, h0, h⟩; exact ⟨_, h0, u, rfl, h⟩)) ?_ ?_; clear h45
 ·
  rintro u48 w47 ⟨_, rfl, hr49, hb50⟩
  have hz51 := hb50.size
  have hB52 := hb_call hB36 hb50
  have hk53 := hk37.below hb50
  have hX54 := MsO.below hX38 hb50
  exact ⟨hB52, hk53, hX54⟩
 rintro u48 w47 a46 ⟨_, rfl, hr49, hb50⟩ h46
 have hz51 := hb50.size
 have hB52 := hb_call hB36 hb50
 have hk53 := hk37.below hb50
 have hX54 := MsO.below hX38 hb50
 have hr57 := row_kept_new hr31 (below_grown hb34)
 have hr58 := row_kept_new hr57 (below_grown hb50)
 refine d1 15 h46 rfl rfl (op_call (args := #[u48, lgv]) (R := fun res xw => res = .bool true ∧ Below w47.heap.size w47 xw) rfl rfl rfl (by kernel_rfl) (by kernel_rfl) (Try.call33 _ _) (sameIntsM u48 s.lg lgv w47 (row_sl hr49 (intE_len .i64)) (row_sl hr58 (intE_len .i64))) (by rintro e x ⟨rfl, hb59⟩; exact ⟨_, rfl, ⟨rfl, hb59⟩⟩)) ?_ ?_; clear h46
 ·
  rintro _ w56 ⟨rfl, hb59⟩
  have hz60 := hb59.size
  have hB61 := hb_call hB52 hb59
  have hk62 := hk53.below hb59
  have hX63 := MsO.below hX54 hb59
  exact ⟨hB61, hk62, hX63⟩
 rintro _ w56 a55 ⟨rfl, hb59⟩ h55
 have hz60 := hb59.size
 have hB61 := hb_call hB52 hb59
 have hk62 := hk53.below hb59
 have hX63 := MsO.below hX54 hb59
 refine dk0 16 (v := .bool false) h55 rfl rfl ⟨hB61, hk62, hX63⟩ fun a64 h64 => ?_; clear h55
 refine dk0 17 (v := .bool false) h64 rfl rfl ⟨hB61, hk62, hX63⟩ fun a65 h65 => ?_; clear h64
 refine dk0 18 (v := .bool false) h65 rfl rfl ⟨hB61, hk62, hX63⟩ fun a66 h66 => ?_; clear h65
 refine dk0 19 (v := pt b 0) h66 rfl rfl ⟨hB61, hk62, hX63⟩ fun a67 h67 => ?_; clear h66
 refine dk0 21 (v := pt d 0) h67 rfl rfl ⟨hB61, hk62, hX63⟩ fun a68 h68 => ?_; clear h67
 refine dk0 22 (v := pt d 0) h68 rfl rfl ⟨hB61, hk62, hX63⟩ fun a69 h69 => ?_; clear h68
 refine dk0 23 (v := pt d 4) h69 rfl rfl ⟨hB61, hk62, hX63⟩ fun a70 h70 => ?_; clear h69
 refine dk 24 (v := .int .u64 s.hz) h70 rfl rfl ⟨hB61, hk62, hX63⟩ (fun x hx => (rn_load1 rfl rfl Try.isAgg29 (hx.2.1.cell rfl))) fun a71 h71 => ?_; clear h70
 have hr74 := row_kept_new hr29 (below_grown hb34)
 have hr75 := row_kept_new hr74 (below_grown hb50)
 have hr76 := row_kept_new hr75 (below_grown hb59)
 have hr77 := row_kept_new hr33 (below_grown hb34)
 have hr78 := row_kept_new hr77 (below_grown hb50)
 have hr79 := row_kept_new hr78 (below_grown hb59)
 have hr80 := row_kept_new hr20 (below_grown hb34)
 have hr81 := row_kept_new hr80 (below_grown hb50)
 have hr82 := row_kept_new hr81 (below_grown hb59)
 refine d1 20 h71 rfl rfl (op_call (args := #[pt b 0]) (R := fun res xw => res = .int .u64 s.hz ∧ Below w56.heap.size w56 xw) rfl rfl rfl (by kernel_rfl) (by kernel_rfl) (Try.call12 _ _) (moHor hX63) (by rintro e x ⟨rfl, h⟩; exact ⟨_, rfl, rfl, h⟩)) ?_ ?_; clear h71
 ·
  rintro _ w73 ⟨rfl, hb83⟩
  have hz84 := hb83.size
  have hB85 := hb_call hB61 hb83
  have hk86 := hk62.below hb83
  have hX87 := MsO.below hX63 hb83
  exact ⟨hB85, hk86, hX87⟩
 rintro _ w73 a72 ⟨rfl, hb83⟩ h72
 have hz84 := hb83.size
 have hB85 := hb_call hB61 hb83
 have hk86 := hk62.below hb83
 have hX87 := MsO.below hX63 hb83
 refine dk0 25 (v := .bool (s.hz != s.hz)) h72 rfl rfl ⟨hB85, hk86, hX87⟩ fun a88 h88 => ?_; clear h72
 refine dk0 26 (v := .bool (s.hz != s.hz)) h88 rfl rfl ⟨hB85, hk86, hX87⟩ fun a89 h89 => ?_; clear h88
 refine dk0 27 (v := .bool (s.hz != s.hz)) h89 rfl rfl ⟨hB85, hk86, hX87⟩ fun a90 h90 => ?_; clear h89
 have hc91 : (s.hz != s.hz) = false := by first | rfl | simp
 rw [hc91] at h90; clear hc91
 refine dk0 28 (v := pt b 0) h90 rfl rfl ⟨hB85, hk86, hX87⟩ fun a92 h92 => ?_; clear h90
 refine dk0 30 (v := pt d 0) h92 rfl rfl ⟨hB85, hk86, hX87⟩ fun a93 h93 => ?_; clear h92
 refine dk0 31 (v := pt d 0) h93 rfl rfl ⟨hB85, hk86, hX87⟩ fun a94 h94 => ?_; clear h93
 refine dk0 32 (v := pt d 5) h94 rfl rfl ⟨hB85, hk86, hX87⟩ fun a95 h95 => ?_; clear h94
 refine dk 33 (v := pv) h95 rfl rfl ⟨hB85, hk86, hX87⟩ (fun x hx => (rn_load1 rfl rfl Try.isAgg47 (hx.2.1.cell rfl))) fun a96 h96 => ?_; clear h95
 have hr99 := row_kept_new hr58 (below_grown hb59)
 have hr100 := row_kept_new hr99 (below_grown hb83)
 have hr101 := row_kept_new hr49 (below_grown hb59)
 have hr102 := row_kept_new hr101 (below_grown hb83)
 refine d1 29 h96 rfl rfl (op_call (args := #[pt b 0]) (R := fun res xw => ∃ u : Value, res = u ∧ xw.ownsRow w73.heap.size 40 3 u s.pn.length (s.pn.flatMap pinE) ∧ Below w73.heap.size w73 xw) rfl rfl rfl (by kernel_rfl) (by kernel_rfl) (Try.call14 _ _) (moPins hX87) (by rintro e x ⟨u, h0, h⟩; exact ⟨_, h0, u, rfl, h⟩)) ?_ ?_; clear h96
 ·
  rintro u103 w98 ⟨_, rfl, hr104, hb105⟩
  have hz106 := hb105.size
  have hB107 := hb_call hB85 hb105
  have hk108 := hk86.below hb105
  have hX109 := MsO.below hX87 hb105
  exact ⟨hB107, hk108, hX109⟩
 rintro u103 w98 a97 ⟨_, rfl, hr104, hb105⟩ h97
 have hz106 := hb105.size
 have hB107 := hb_call hB85 hb105
 have hk108 := hk86.below hb105
 have hX109 := MsO.below hX87 hb105
 have hr112 := row_kept_new hr76 (below_grown hb83)
 have hr113 := row_kept_new hr112 (below_grown hb105)
 have hr114 := row_kept_new hr79 (below_grown hb83)
 have hr115 := row_kept_new hr114 (below_grown hb105)
 have hr116 := row_kept_new hr82 (below_grown hb83)
 have hr117 := row_kept_new hr116 (below_grown hb105)
 refine d1 34 h97 rfl rfl (op_call (args := #[u103, pv]) (R := fun res xw => res = .bool true ∧ Below w98.heap.size w98 xw) rfl rfl rfl (by kernel_rfl) (by kernel_rfl) (Try.call34 _ _) (samePins_any u103 pv s.pn w98 (row_sl hr104 pinE_len) (row_sl hr113 pinE_len)) (by rintro e x ⟨rfl, h⟩; exact ⟨_, rfl, rfl, h⟩)) ?_ ?_; clear h97
 ·
  rintro _ w111 ⟨rfl, hb118⟩
  have hz119 := hb118.size
  have hB120 := hb_call hB107 hb118
  have hk121 := hk108.below hb118
  have hX122 := MsO.below hX109 hb118
  exact ⟨hB120, hk121, hX122⟩
 rintro _ w111 a110 ⟨rfl, hb118⟩ h110
 have hz119 := hb118.size
 have hB120 := hb_call hB107 hb118
 have hk121 := hk108.below hb118
 have hX122 := MsO.below hX109 hb118
 refine dk0 35 (v := .bool false) h110 rfl rfl ⟨hB120, hk121, hX122⟩ fun a123 h123 => ?_; clear h110
 refine dk0 36 (v := .bool false) h123 rfl rfl ⟨hB120, hk121, hX122⟩ fun a124 h124 => ?_; clear h123
 refine dk0 37 (v := .bool false) h124 rfl rfl ⟨hB120, hk121, hX122⟩ fun a125 h125 => ?_; clear h124
 refine dk0 38 (v := pt b 0) h125 rfl rfl ⟨hB120, hk121, hX122⟩ fun a126 h126 => ?_; clear h125
 refine dk0 40 (v := pt d 0) h126 rfl rfl ⟨hB120, hk121, hX122⟩ fun a127 h127 => ?_; clear h126
 refine dk0 41 (v := pt d 0) h127 rfl rfl ⟨hB120, hk121, hX122⟩ fun a128 h128 => ?_; clear h127
 refine dk0 42 (v := pt d 6) h128 rfl rfl ⟨hB120, hk121, hX122⟩ fun a129 h129 => ?_; clear h128
 refine dk 43 (v := .int .i64 s.tp) h129 rfl rfl ⟨hB120, hk121, hX122⟩ (fun x hx => (rn_load1 rfl rfl Try.isAgg3 (hx.2.1.cell rfl))) fun a130 h130 => ?_; clear h129
 have hr133 := row_kept_new hr100 (below_grown hb105)
 have hr134 := row_kept_new hr133 (below_grown hb118)
 have hr135 := row_kept_new hr102 (below_grown hb105)
 have hr136 := row_kept_new hr135 (below_grown hb118)
 refine d1 39 h130 rfl rfl (op_call (args := #[pt b 0]) (R := fun res xw => res = .int .i64 s.tp ∧ Below w111.heap.size w111 xw) rfl rfl rfl (by kernel_rfl) (by kernel_rfl) (Try.call18 _ _) (moTop hX122) (by rintro e x ⟨rfl, h⟩; exact ⟨_, rfl, rfl, h⟩)) ?_ ?_; clear h130
 ·
  rintro _ w132 ⟨rfl, hb137⟩
  have hz138 := hb137.size
  have hB139 := hb_call hB120 hb137
  have hk140 := hk121.below hb137
  have hX141 := MsO.below hX122 hb137
  exact ⟨hB139, hk140, hX141⟩
 rintro _ w132 a131 ⟨rfl, hb137⟩ h131
 have hz138 := hb137.size
 have hB139 := hb_call hB120 hb137
 have hk140 := hk121.below hb137
 have hX141 := MsO.below hX122 hb137
 refine dk0 44 (v := .bool (s.tp != s.tp)) h131 rfl rfl ⟨hB139, hk140, hX141⟩ fun a142 h142 => ?_; clear h131
 refine dk0 45 (v := .bool (s.tp != s.tp)) h142 rfl rfl ⟨hB139, hk140, hX141⟩ fun a143 h143 => ?_; clear h142
 refine dr_done (by kernel_rfl) ?_
 refine co_then ?_
 have hc144 : (s.tp != s.tp) = false := by first | rfl | simp
 rw [hc144] at h143; clear hc144
 refine co_false h143 rfl ?_
 refine wp_skip ?_
 refine co_then ?_
 refine co_seq ?_
 refine co_seq ?_
 refine co_reg ?_
 refine pk0 (v := .int .i64 (-1)) h143 rfl fun a145 h145 => ?_; clear h143
 refine pl_nil ?_
 refine co_then ?_
 refine wp_block ?_
 refine wp_loop_rounds 6 ?_
 refine co_unroll (n := 5) ?_
 refine co_seq ?_
 refine co_seq ?_
 refine co_reg ?_
 refine pk0 (v := .int .i64 (-1)) h145 rfl fun a146 h146 => ?_; clear h145
 refine pk0 (v := .bool (decide ((-1) ≤ 3))) h146 rfl fun a147 h147 => ?_; clear h146
 refine pl_nil ?_
 refine co_then ?_
 have hc148 : (decide ((-1) ≤ 3)) = true := by first | rfl | simp
 rw [hc148] at h147; clear hc148
 refine co_true h147 rfl ?_
 refine wp_skip ?_
 refine co_then ?_
 refine co_seq ?_
 refine wp_block ?_
 refine co_seq ?_
 refine co_reg ?_
 refine pk0 (v := pt b 0) h147 rfl fun a149 h149 => ?_; clear h147
 refine pk0 (v := .int .i64 (-1)) h149 rfl fun a150 h150 => ?_; clear h149
 have hr153 := row_kept_new hr113 (below_grown hb118)
 have hr154 := row_kept_new hr153 (below_grown hb137)
 have hr155 := row_kept_new hr115 (below_grown hb118)
 have hr156 := row_kept_new hr155 (below_grown hb137)
 have hr157 := row_kept_new hr117 (below_grown hb118)
 have hr158 := row_kept_new hr157 (below_grown hb137)
 have hr159 := row_kept_new hr104 (below_grown hb118)
 have hr160 := row_kept_new hr159 (below_grown hb137)
 refine pw h150 rfl (op_call (args := #[pt b 0, .int .i64 (-1)]) (R := fun res xw => res = .agg #[.int .i64 0, .int .i64 0, .int .i64 0, .int .i64 0] ∧ Below w132.heap.size w132 xw) rfl rfl rfl (by kernel_rfl) (by kernel_rfl) (Try.call35 _ _) (moSaidX (-1) hX141 (by omega)) (by rintro e x ⟨rfl, h⟩; exact ⟨_, rfl, rfl, h⟩)) ?_; clear h150
 rintro _ w152 a151 ⟨rfl, hb161⟩ h151
 have hz162 := hb161.size
 refine pk0 (v := pt d 0) h151 rfl fun a163 h163 => ?_; clear h151
 refine pk0 (v := .int .i64 (-1)) h163 rfl fun a164 h164 => ?_; clear h163
 have hk167 := hk140.below hb161
 refine pw h164 rfl (op_call (args := #[pt d 0, .int .i64 (-1)]) (R := fun res xw => res = .agg #[.int .i64 0, .int .i64 0, .int .i64 0, .int .i64 0] ∧ Below w152.heap.size w152 xw) rfl rfl rfl (by kernel_rfl) (by kernel_rfl) (Try.call36 _ _) (mdSaidX d s.ep cv s.fl lgv s.hz pv s.tp s.x0.2 s.x1.2 s.x2.2 (-1) w152 hk167 (by omega)) (by rintro e x ⟨rfl, hb168⟩; exact ⟨_, rfl, ⟨rfl, hb168⟩⟩)) ?_; clear h164
 rintro _ w166 a165 ⟨rfl, hb168⟩ h165
 have hz169 := hb168.size
 refine pk (v := .bool (!((0 : Int) == 0 && (0 : Int) == 0 && (0 : Int) == 0 && (0 : Int) == 0))) h165 rfl (rn_neS rfl rfl rfl Try.eqGuardType42 (eq_said _ _ _ _ _ _ _ _ _)) fun a170 h170 => ?_; clear h165
 refine pl_nil ?_
 refine co_then ?_
 have hc171 : (!((0 : Int) == 0 && (0 : Int) == 0 && (0 : Int) == 0 && (0 : Int) == 0)) = false := by first | rfl | simp
 rw [hc171] at h170; clear hc171
 refine co_false h170 rfl ?_
 refine wp_skip ?_
 refine co_blockN ?_
 refine co_then ?_
 refine co_reg ?_
 refine pk0 (v := .int .i64 (-1)) h170 rfl fun a172 h172 => ?_; clear h170
 refine pk0 (v := .int .i64 0) h172 rfl fun a173 h173 => ?_; clear h172
 refine pk0 (v := .int .i64 0) h173 rfl fun a174 h174 => ?_; clear h173
 refine pl_nil ?_
 refine co_then ?_
 refine co_unroll (n := 4) ?_
 refine co_seq ?_
 refine co_seq ?_
 refine co_reg ?_
 refine pk0 (v := .int .i64 0) h174 rfl fun a175 h175 => ?_; clear h174
 refine pk0 (v := .bool (decide (0 ≤ 3))) h175 rfl fun a176 h176 => ?_; clear h175
 refine pl_nil ?_
 refine co_then ?_
 have hc177 : (decide (0 ≤ 3)) = true := by first | rfl | simp
 rw [hc177] at h176; clear hc177
 refine co_true h176 rfl ?_
 refine wp_skip ?_
 refine co_then ?_
 refine co_seq ?_
 refine wp_block ?_
 refine co_seq ?_
 refine co_reg ?_
 refine pk0 (v := pt b 0) h176 rfl fun a178 h178 => ?_; clear h176
 refine pk0 (v := .int .i64 0) h178 rfl fun a179 h179 => ?_; clear h178
 have hB182 := hb_call hB139 hb161
 have hB183 := hb_call hB182 hb168
 have hX184 := MsO.below hX141 hb161
 have hX185 := MsO.below hX184 hb168
 have hr186 := row_kept_new hr154 (below_grown hb161)
 have hr187 := row_kept_new hr186 (below_grown hb168)
 have hr188 := row_kept_new hr134 (below_grown hb137)
 have hr189 := row_kept_new hr188 (below_grown hb161)
 have hr190 := row_kept_new hr189 (below_grown hb168)
 have hr191 := row_kept_new hr156 (below_grown hb161)
 have hr192 := row_kept_new hr191 (below_grown hb168)
 have hr193 := row_kept_new hr158 (below_grown hb161)
 have hr194 := row_kept_new hr193 (below_grown hb168)
 have hr195 := row_kept_new hr136 (below_grown hb137)
 have hr196 := row_kept_new hr195 (below_grown hb161)
 have hr197 := row_kept_new hr196 (below_grown hb168)
 have hr198 := row_kept_new hr160 (below_grown hb161)
 have hr199 := row_kept_new hr198 (below_grown hb168)
 refine pw h179 rfl (op_call (args := #[pt b 0, .int .i64 0]) (R := fun res xw => res = .agg #[.int .i64 s.x0.2.1, .int .i64 s.x0.2.2.1, .int .i64 s.x0.2.2.2.1, .int .i64 s.x0.2.2.2.2] ∧ Below w166.heap.size w166 xw) rfl rfl rfl (by kernel_rfl) (by kernel_rfl) (Try.call35 _ _) (moSaid0 hX185) (by rintro e x ⟨rfl, h⟩; exact ⟨_, rfl, rfl, h⟩)) ?_; clear h179
 rintro _ w181 a180 ⟨rfl, hb200⟩ h180
 have hz201 := hb200.size
 refine pk0 (v := pt d 0) h180 rfl fun a202 h202 => ?_; clear h180
 refine pk0 (v := .int .i64 0) h202 rfl fun a203 h203 => ?_; clear h202
 have hk206 := hk167.below hb168
 have hk207 := hk206.below hb200
 refine pw h203 rfl (op_call (args := #[pt d 0, .int .i64 0]) (R := fun res xw => res = .agg #[.int .i64 s.x0.2.1, .int .i64 s.x0.2.2.1, .int .i64 s.x0.2.2.2.1, .int .i64 s.x0.2.2.2.2] ∧ Below w181.heap.size w181 xw) rfl rfl rfl (by kernel_rfl) (by kernel_rfl) (Try.call36 _ _) (mdSaid0 d s.ep cv s.fl lgv s.hz pv s.tp s.x0.2 s.x1.2 s.x2.2 w181 hk207) (by rintro e x ⟨rfl, hb208⟩; exact ⟨_, rfl, ⟨rfl, hb208⟩⟩)) ?_; clear h203
 rintro _ w205 a204 ⟨rfl, hb208⟩ h204
 have hz209 := hb208.size
 refine pk (v := .bool (!((s.x0.2.1 : Int) == s.x0.2.1 && (s.x0.2.2.1 : Int) == s.x0.2.2.1 && (s.x0.2.2.2.1 : Int) == s.x0.2.2.2.1 && (s.x0.2.2.2.2 : Int) == s.x0.2.2.2.2))) h204 rfl (rn_neS rfl rfl rfl Try.eqGuardType42 (eq_said _ _ _ _ _ _ _ _ _)) fun a210 h210 => ?_; clear h204
 refine pl_nil ?_
 refine co_then ?_
 have hc211 : (!((s.x0.2.1 : Int) == s.x0.2.1 && (s.x0.2.2.1 : Int) == s.x0.2.2.1 && (s.x0.2.2.2.1 : Int) == s.x0.2.2.2.1 && (s.x0.2.2.2.2 : Int) == s.x0.2.2.2.2)) = false := by first | rfl | simp
 rw [hc211] at h210; clear hc211
 refine co_false h210 rfl ?_
 refine wp_skip ?_
 refine co_blockN ?_
 refine co_then ?_
 refine co_reg ?_
 refine pk0 (v := .int .i64 0) h210 rfl fun a212 h212 => ?_; clear h210
 refine pk0 (v := .int .i64 1) h212 rfl fun a213 h213 => ?_; clear h212
 refine pk0 (v := .int .i64 1) h213 rfl fun a214 h214 => ?_; clear h213
 refine pl_nil ?_
 refine co_then ?_
 refine co_unroll (n := 3) ?_
 refine co_seq ?_
 refine co_seq ?_
 refine co_reg ?_
 refine pk0 (v := .int .i64 1) h214 rfl fun a215 h215 => ?_; clear h214
 refine pk0 (v := .bool (decide (1 ≤ 3))) h215 rfl fun a216 h216 => ?_; clear h215
 refine pl_nil ?_
 refine co_then ?_
 have hc217 : (decide (1 ≤ 3)) = true := by first | rfl | simp
 rw [hc217] at h216; clear hc217
 refine co_true h216 rfl ?_
 refine wp_skip ?_
 refine co_then ?_
 refine co_seq ?_
 refine wp_block ?_
 refine co_seq ?_
 refine co_reg ?_
 refine pk0 (v := pt b 0) h216 rfl fun a218 h218 => ?_; clear h216
 refine pk0 (v := .int .i64 1) h218 rfl fun a219 h219 => ?_; clear h218
 have hB222 := hb_call hB183 hb200
 have hB223 := hb_call hB222 hb208
 have hX224 := MsO.below hX185 hb200
 have hX225 := MsO.below hX224 hb208
 have hr226 := row_kept_new hr187 (below_grown hb200)
 have hr227 := row_kept_new hr226 (below_grown hb208)
 have hr228 := row_kept_new hr190 (below_grown hb200)
 have hr229 := row_kept_new hr228 (below_grown hb208)
 have hr230 := row_kept_new hr192 (below_grown hb200)
 have hr231 := row_kept_new hr230 (below_grown hb208)
 have hr232 := row_kept_new hr194 (below_grown hb200)
 have hr233 := row_kept_new hr232 (below_grown hb208)
 have hr234 := row_kept_new hr197 (below_grown hb200)
 have hr235 := row_kept_new hr234 (below_grown hb208)
 have hr236 := row_kept_new hr199 (below_grown hb200)
 have hr237 := row_kept_new hr236 (below_grown hb208)
 refine pw h219 rfl (op_call (args := #[pt b 0, .int .i64 1]) (R := fun res xw => res = .agg #[.int .i64 s.x1.2.1, .int .i64 s.x1.2.2.1, .int .i64 s.x1.2.2.2.1, .int .i64 s.x1.2.2.2.2] ∧ Below w205.heap.size w205 xw) rfl rfl rfl (by kernel_rfl) (by kernel_rfl) (Try.call35 _ _) (moSaid1 hX225) (by rintro e x ⟨rfl, h⟩; exact ⟨_, rfl, rfl, h⟩)) ?_; clear h219
 rintro _ w221 a220 ⟨rfl, hb238⟩ h220
 have hz239 := hb238.size
 refine pk0 (v := pt d 0) h220 rfl fun a240 h240 => ?_; clear h220
 refine pk0 (v := .int .i64 1) h240 rfl fun a241 h241 => ?_; clear h240
 have hk244 := hk207.below hb208
 have hk245 := hk244.below hb238
 refine pw h241 rfl (op_call (args := #[pt d 0, .int .i64 1]) (R := fun res xw => res = .agg #[.int .i64 s.x1.2.1, .int .i64 s.x1.2.2.1, .int .i64 s.x1.2.2.2.1, .int .i64 s.x1.2.2.2.2] ∧ Below w221.heap.size w221 xw) rfl rfl rfl (by kernel_rfl) (by kernel_rfl) (Try.call36 _ _) (mdSaid1 d s.ep cv s.fl lgv s.hz pv s.tp s.x0.2 s.x1.2 s.x2.2 w221 hk245) (by rintro e x ⟨rfl, hb246⟩; exact ⟨_, rfl, ⟨rfl, hb246⟩⟩)) ?_; clear h241
 rintro _ w243 a242 ⟨rfl, hb246⟩ h242
 have hz247 := hb246.size
 refine pk (v := .bool (!((s.x1.2.1 : Int) == s.x1.2.1 && (s.x1.2.2.1 : Int) == s.x1.2.2.1 && (s.x1.2.2.2.1 : Int) == s.x1.2.2.2.1 && (s.x1.2.2.2.2 : Int) == s.x1.2.2.2.2))) h242 rfl (rn_neS rfl rfl rfl Try.eqGuardType42 (eq_said _ _ _ _ _ _ _ _ _)) fun a248 h248 => ?_; clear h242
 refine pl_nil ?_
 refine co_then ?_
 have hc249 : (!((s.x1.2.1 : Int) == s.x1.2.1 && (s.x1.2.2.1 : Int) == s.x1.2.2.1 && (s.x1.2.2.2.1 : Int) == s.x1.2.2.2.1 && (s.x1.2.2.2.2 : Int) == s.x1.2.2.2.2)) = false := by first | rfl | simp
 rw [hc249] at h248; clear hc249
 refine co_false h248 rfl ?_
 refine wp_skip ?_
 refine co_blockN ?_
 refine co_then ?_
 refine co_reg ?_
 refine pk0 (v := .int .i64 1) h248 rfl fun a250 h250 => ?_; clear h248
 refine pk0 (v := .int .i64 2) h250 rfl fun a251 h251 => ?_; clear h250
 refine pk0 (v := .int .i64 2) h251 rfl fun a252 h252 => ?_; clear h251
 refine pl_nil ?_
 refine co_then ?_
 refine co_unroll (n := 2) ?_
 refine co_seq ?_
 refine co_seq ?_
 refine co_reg ?_
 refine pk0 (v := .int .i64 2) h252 rfl fun a253 h253 => ?_; clear h252
 refine pk0 (v := .bool (decide (2 ≤ 3))) h253 rfl fun a254 h254 => ?_; clear h253
 refine pl_nil ?_
 refine co_then ?_
 have hc255 : (decide (2 ≤ 3)) = true := by first | rfl | simp
 rw [hc255] at h254; clear hc255
 refine co_true h254 rfl ?_
 refine wp_skip ?_
 refine co_then ?_
 refine co_seq ?_
 refine wp_block ?_
 refine co_seq ?_
 refine co_reg ?_
 refine pk0 (v := pt b 0) h254 rfl fun a256 h256 => ?_; clear h254
 refine pk0 (v := .int .i64 2) h256 rfl fun a257 h257 => ?_; clear h256
 have hB260 := hb_call hB223 hb238
 have hB261 := hb_call hB260 hb246
 have hX262 := MsO.below hX225 hb238
 have hX263 := MsO.below hX262 hb246
 have hr264 := row_kept_new hr227 (below_grown hb238)
 have hr265 := row_kept_new hr264 (below_grown hb246)
 have hr266 := row_kept_new hr229 (below_grown hb238)
 have hr267 := row_kept_new hr266 (below_grown hb246)
 have hr268 := row_kept_new hr231 (below_grown hb238)
 have hr269 := row_kept_new hr268 (below_grown hb246)
 have hr270 := row_kept_new hr233 (below_grown hb238)
 have hr271 := row_kept_new hr270 (below_grown hb246)
 have hr272 := row_kept_new hr235 (below_grown hb238)
 have hr273 := row_kept_new hr272 (below_grown hb246)
 have hr274 := row_kept_new hr237 (below_grown hb238)
 have hr275 := row_kept_new hr274 (below_grown hb246)
 refine pw h257 rfl (op_call (args := #[pt b 0, .int .i64 2]) (R := fun res xw => res = .agg #[.int .i64 s.x2.2.1, .int .i64 s.x2.2.2.1, .int .i64 s.x2.2.2.2.1, .int .i64 s.x2.2.2.2.2] ∧ Below w243.heap.size w243 xw) rfl rfl rfl (by kernel_rfl) (by kernel_rfl) (Try.call35 _ _) (moSaid2 hX263) (by rintro e x ⟨rfl, h⟩; exact ⟨_, rfl, rfl, h⟩)) ?_; clear h257
 rintro _ w259 a258 ⟨rfl, hb276⟩ h258
 have hz277 := hb276.size
 refine pk0 (v := pt d 0) h258 rfl fun a278 h278 => ?_; clear h258
 refine pk0 (v := .int .i64 2) h278 rfl fun a279 h279 => ?_; clear h278
 have hk282 := hk245.below hb246
 have hk283 := hk282.below hb276
 refine pw h279 rfl (op_call (args := #[pt d 0, .int .i64 2]) (R := fun res xw => res = .agg #[.int .i64 s.x2.2.1, .int .i64 s.x2.2.2.1, .int .i64 s.x2.2.2.2.1, .int .i64 s.x2.2.2.2.2] ∧ Below w259.heap.size w259 xw) rfl rfl rfl (by kernel_rfl) (by kernel_rfl) (Try.call36 _ _) (mdSaid2 d s.ep cv s.fl lgv s.hz pv s.tp s.x0.2 s.x1.2 s.x2.2 w259 hk283) (by rintro e x ⟨rfl, hb284⟩; exact ⟨_, rfl, ⟨rfl, hb284⟩⟩)) ?_; clear h279
 rintro _ w281 a280 ⟨rfl, hb284⟩ h280
 have hz285 := hb284.size
 refine pk (v := .bool (!((s.x2.2.1 : Int) == s.x2.2.1 && (s.x2.2.2.1 : Int) == s.x2.2.2.1 && (s.x2.2.2.2.1 : Int) == s.x2.2.2.2.1 && (s.x2.2.2.2.2 : Int) == s.x2.2.2.2.2))) h280 rfl (rn_neS rfl rfl rfl Try.eqGuardType42 (eq_said _ _ _ _ _ _ _ _ _)) fun a286 h286 => ?_; clear h280
 refine pl_nil ?_
 refine co_then ?_
 have hc287 : (!((s.x2.2.1 : Int) == s.x2.2.1 && (s.x2.2.2.1 : Int) == s.x2.2.2.1 && (s.x2.2.2.2.1 : Int) == s.x2.2.2.2.1 && (s.x2.2.2.2.2 : Int) == s.x2.2.2.2.2)) = false := by first | rfl | simp
 rw [hc287] at h286; clear hc287
 refine co_false h286 rfl ?_
 refine wp_skip ?_
 refine co_blockN ?_
 refine co_then ?_
 refine co_reg ?_
 refine pk0 (v := .int .i64 2) h286 rfl fun a288 h288 => ?_; clear h286
 refine pk0 (v := .int .i64 3) h288 rfl fun a289 h289 => ?_; clear h288
 refine pk0 (v := .int .i64 3) h289 rfl fun a290 h290 => ?_; clear h289
 refine pl_nil ?_
 refine co_then ?_
 refine co_unroll (n := 1) ?_
 refine co_seq ?_
 refine co_seq ?_
 refine co_reg ?_
 refine pk0 (v := .int .i64 3) h290 rfl fun a291 h291 => ?_; clear h290
 refine pk0 (v := .bool (decide (3 ≤ 3))) h291 rfl fun a292 h292 => ?_; clear h291
 refine pl_nil ?_
 refine co_then ?_
 have hc293 : (decide (3 ≤ 3)) = true := by first | rfl | simp
 rw [hc293] at h292; clear hc293
 refine co_true h292 rfl ?_
 refine wp_skip ?_
 refine co_then ?_
 refine co_seq ?_
 refine wp_block ?_
 refine co_seq ?_
 refine co_reg ?_
 refine pk0 (v := pt b 0) h292 rfl fun a294 h294 => ?_; clear h292
 refine pk0 (v := .int .i64 3) h294 rfl fun a295 h295 => ?_; clear h294
 have hB298 := hb_call hB261 hb276
 have hB299 := hb_call hB298 hb284
 have hX300 := MsO.below hX263 hb276
 have hX301 := MsO.below hX300 hb284
 have hr302 := row_kept_new hr265 (below_grown hb276)
 have hr303 := row_kept_new hr302 (below_grown hb284)
 have hr304 := row_kept_new hr267 (below_grown hb276)
 have hr305 := row_kept_new hr304 (below_grown hb284)
 have hr306 := row_kept_new hr269 (below_grown hb276)
 have hr307 := row_kept_new hr306 (below_grown hb284)
 have hr308 := row_kept_new hr271 (below_grown hb276)
 have hr309 := row_kept_new hr308 (below_grown hb284)
 have hr310 := row_kept_new hr273 (below_grown hb276)
 have hr311 := row_kept_new hr310 (below_grown hb284)
 have hr312 := row_kept_new hr275 (below_grown hb276)
 have hr313 := row_kept_new hr312 (below_grown hb284)
 refine pw h295 rfl (op_call (args := #[pt b 0, .int .i64 3]) (R := fun res xw => res = .agg #[.int .i64 0, .int .i64 0, .int .i64 0, .int .i64 0] ∧ Below w281.heap.size w281 xw) rfl rfl rfl (by kernel_rfl) (by kernel_rfl) (Try.call35 _ _) (moSaidX (3) hX301 (by omega)) (by rintro e x ⟨rfl, h⟩; exact ⟨_, rfl, rfl, h⟩)) ?_; clear h295
 rintro _ w297 a296 ⟨rfl, hb314⟩ h296
 have hz315 := hb314.size
 refine pk0 (v := pt d 0) h296 rfl fun a316 h316 => ?_; clear h296
 refine pk0 (v := .int .i64 3) h316 rfl fun a317 h317 => ?_; clear h316
 have hk320 := hk283.below hb284
 have hk321 := hk320.below hb314
 refine pw h317 rfl (op_call (args := #[pt d 0, .int .i64 3]) (R := fun res xw => res = .agg #[.int .i64 0, .int .i64 0, .int .i64 0, .int .i64 0] ∧ Below w297.heap.size w297 xw) rfl rfl rfl (by kernel_rfl) (by kernel_rfl) (Try.call36 _ _) (mdSaidX d s.ep cv s.fl lgv s.hz pv s.tp s.x0.2 s.x1.2 s.x2.2 3 w297 hk321 (by omega)) (by rintro e x ⟨rfl, hb322⟩; exact ⟨_, rfl, ⟨rfl, hb322⟩⟩)) ?_; clear h317
 rintro _ w319 a318 ⟨rfl, hb322⟩ h318
 have hz323 := hb322.size
 refine pk (v := .bool (!((0 : Int) == 0 && (0 : Int) == 0 && (0 : Int) == 0 && (0 : Int) == 0))) h318 rfl (rn_neS rfl rfl rfl Try.eqGuardType42 (eq_said _ _ _ _ _ _ _ _ _)) fun a324 h324 => ?_; clear h318
 refine pl_nil ?_
 refine co_then ?_
 have hc325 : (!((0 : Int) == 0 && (0 : Int) == 0 && (0 : Int) == 0 && (0 : Int) == 0)) = false := by first | rfl | simp
 rw [hc325] at h324; clear hc325
 refine co_false h324 rfl ?_
 refine wp_skip ?_
 refine co_blockN ?_
 refine co_then ?_
 refine co_reg ?_
 refine pk0 (v := .int .i64 3) h324 rfl fun a326 h326 => ?_; clear h324
 refine pk0 (v := .int .i64 4) h326 rfl fun a327 h327 => ?_; clear h326
 refine pk0 (v := .int .i64 4) h327 rfl fun a328 h328 => ?_; clear h327
 refine pl_nil ?_
 refine co_then ?_
 refine co_unroll (n := 0) ?_
 refine co_seq ?_
 refine co_seq ?_
 refine co_reg ?_
 refine pk0 (v := .int .i64 4) h328 rfl fun a329 h329 => ?_; clear h328
 refine pk0 (v := .bool (decide (4 ≤ 3))) h329 rfl fun a330 h330 => ?_; clear h329
 refine pl_nil ?_
 refine co_then ?_
 have hc331 : (decide (4 ≤ 3)) = false := by first | rfl | simp
 rw [hc331] at h330; clear hc331
 refine co_false h330 rfl ?_
 refine wp_exit ?_
 refine co_thenX ?_
 refine co_thenX ?_
 refine co_blockX ?_
 refine co_then ?_
 refine co_seq ?_
 refine co_reg ?_
 refine pk0 (v := .int .i64 1) h330 rfl fun a332 h332 => ?_; clear h330
 refine pl_nil ?_
 refine co_then ?_
 refine wp_ret ?_
 refine co_ret1 h332 rfl rfl ?_
 have hB333 := hb_call hB299 hb314
 have hB334 := hb_call hB333 hb322
 exact ⟨rfl, hB334⟩

theorem moSame {w : World} {b d : Nat} {s : MsT} (h : MsO w b s) (hd : MdO w d s) (hv : VaM s) : Calls Try.prog 11 #[pt b 0, pt d 0] w fun e w' => e = .returned (.int .i64 1) ∧ Below w.heap.size w w' := by
  obtain ⟨cv, lgv, pv, h1, h2, h3, h4, h5⟩ := hd
  exact same28_any b s d cv lgv pv w h h1 h2 h3 h4 hv

end Go.Proofs.Ytnjbnndpbegkdaa
