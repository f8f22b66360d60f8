/- catenalaw22: gone. Conditions: none. -/
import Derived.Test.YthmljllgfigebaaPrGLo
namespace Go.Proofs.Ythmljllgfigebaa
open Go.RowKit Go.PlainAid
set_option linter.unusedVariables false
set_option linter.unusedSimpArgs false


def goneP (P : PrT) (i : Nat) : PrT := { P with W := P.W.take i ++ P.W.drop (i + 1), T := P.T.take i ++ P.T.drop (i + 1) }

set_option maxRecDepth 100000 in
set_option maxHeartbeats 3200000 in
theorem prGone_any (S : Nat → Prop) (b : Nat) (P : PrT) (i : Nat) (w : World) (hP : PrO S w b P) (hlW : P.W.length ≤ 200) (hlT : P.T.length = P.W.length) (hi : i < P.W.length) :
    Calls Try.prog 97 #[pt b 0, .int .i64 ((i : Nat) : Int)] w fun e w' => ∃ (S' : Nat → Prop), e = .returned (.tuple #[]) ∧ PrO S' w' b (goneP P i) ∧ Grew S S' w w' ∧ But (S) w w' := by
 have hB0 := But.refl (S) w
 obtain ⟨NA, NB, SA, SB, wv, tv, hQ⟩ := hP
 have hBk : Blk w b 95 #[pt NA 0, pt NB 0, .int .i64 P.b0, .int .i64 P.b1, wv, tv, .int .i64 P.s0, .int .i64 P.s1, .int .i64 P.t0, .int .i64 P.t1, .bool true] := hQ.blk
 have hl_b := hBk.lt
 have hSb : S b ∨ w.heap.size ≤ b := .inl ((hQ.fp b).2 (.inl rfl))
 have hinA : ∀ q, SA q → S q ∨ w.heap.size ≤ q := fun q h => .inl ((hQ.fp q).2 (.inr (.inl h)))
 have hinB : ∀ q, SB q → S q ∨ w.heap.size ≤ q := fun q h => .inl ((hQ.fp q).2 (.inr (.inr (.inl h))))
 have hinw : InS S w.heap.size wv := InS.of (fun i hi => (hQ.fp i).2 (.inr (.inr (.inr (.inl hi)))))
 have hint : InS S w.heap.size tv := InS.of (fun i hi => (hQ.fp i).2 (.inr (.inr (.inr (.inr hi)))))
 have hW0 := hQ.way
 have hT0 := hQ.to
 refine co_enter (n := 42) Try.func97 rfl rfl rfl [(0, pt b 0), (1, .int .i64 ((i : Nat) : Int))] rfl (fun a h0 => ?_)
 refine co_cut (fun a x => ∃ (wk : Value), Slots 42 [(0, pt b 0), (1, .int .i64 ((i : Nat) : Int))] a ∧ (∀ i, Value.ownBlock wk = some i → ¬ SA i) ∧ (∀ i, Value.ownBlock wk = some i → ¬ SB i) ∧ Blk x b 95 #[pt NA 0, pt NB 0, .int .i64 P.b0, .int .i64 P.b1, wk, tv, .int .i64 P.s0, .int .i64 P.s1, .int .i64 P.t0, .int .i64 P.t1, .bool true] ∧ LkP SA x NA P.A ∧ LkP SB x NB P.B ∧ x.ownsRow w.heap.size 61 8 wk (P.W.take i ++ P.W.drop (i + 1)).length ((P.W.take i ++ P.W.drop (i + 1)).flatMap segE) ∧ x.ownsRow 0 3 1 tv P.T.length (P.T.flatMap (intE .i64)) ∧ But (S) w x) ?_ ?_
 ·
  refine dr_gen (fun x => But (S) w x ∧ x.ownsRow 0 61 8 wv P.W.length (P.W.flatMap segE)) (by kernel_rfl) (fun w1 hg2 => ?_) (fun w1 hg2 => ?_)
  ·
   have hz3 := hg2.size
   have hB4 := fbU_new hB0 hg2
   have hr5 := row_kept_new hW0 hg2
   exact ⟨hB4, hr5⟩
  have hz6 := hg2.size
  have hB7 := fbU_new hB0 hg2
  have hr8 := row_kept_new hW0 hg2
  refine dk0 0 (v := pt b 0) h0 rfl rfl ⟨hB7, hr8⟩ fun a9 h9 => ?_; clear h0
  refine dk0 2 (v := pt b 0) h9 rfl rfl ⟨hB7, hr8⟩ fun a10 h10 => ?_; clear h9
  refine dk0 3 (v := pt b 0) h10 rfl rfl ⟨hB7, hr8⟩ fun a11 h11 => ?_; clear h10
  refine dk0 4 (v := pt b 4) h11 rfl rfl ⟨hB7, hr8⟩ fun a12 h12 => ?_; clear h11
  refine dk0 6 (v := .int .i64 ((i : Nat) : Int)) h12 rfl rfl ⟨hB7, hr8⟩ fun a13 h13 => ?_; clear h12
  refine dk0 9 (v := pt b 0) h13 rfl rfl ⟨hB7, hr8⟩ fun a14 h14 => ?_; clear h13
  refine dk0 10 (v := pt b 0) h14 rfl rfl ⟨hB7, hr8⟩ fun a15 h15 => ?_; clear h14
  refine dk0 11 (v := pt b 4) h15 rfl rfl ⟨hB7, hr8⟩ fun a16 h16 => ?_; clear h15
  refine dk0 13 (v := .int .i64 ((i : Nat) : Int)) h16 rfl rfl ⟨hB7, hr8⟩ fun a17 h17 => ?_; clear h16
  refine dk 14 (v := .int .i64 ((i + 1 : Nat) : Int)) h17 rfl rfl ⟨hB7, hr8⟩ (fun x hx => (rn_arith' rfl rfl rfl rfl rfl rfl (IntWalk.i64_in _ (by omega)) (by omega))) fun a18 h18 => ?_; clear h17
  refine dr_many [1, 5, 12] (by kernel_rfl) (by simp) ⟨?_, ?_, ?_, trivial⟩
  ·
   refine dr_op (i := 1) h18 rfl rfl rfl rfl (op_new (v := fun N => .slice (some ⟨N, 0, none⟩) 0 0) (T := 61) (cs := #[]) (by kernel_rfl) (by kernel_rfl) (by kernel_rfl)) ?_ ?_; clear h18
   ·
    rintro _ w20 ⟨N21, rfl, hN24, hz25, hk23, hg22⟩
    have ha26 := row_fresh hr8 hN24
    have hu27 := row_under hr8 hN24
    have hr29 := row_kept_new hT0 hg2
    have ha28 := row_fresh hr29 hN24
    have hu30 := row_under hr29 hN24
    have hz31 := hg22.size
    have hO33 := LkP.gr hQ.hA hg2 (fun k e => by cases e)
    have ho32 := off_new (LkP.ofS hO33) hN24
    have hO35 := LkP.gr hQ.hB hg2 (fun k e => by cases e)
    have ho34 := off_new (LkP.ofS hO35) hN24
    have hB36 := fbU_new hB7 hg22
    have hr37 := row_kept_new hr8 hg22
    exact ⟨hB36, hr37⟩
   rintro _ w20 a19 ⟨N21, rfl, hN24, hz25, hk23, hg22⟩ h19
   have ha26 := row_fresh hr8 hN24
   have hu27 := row_under hr8 hN24
   have hr29 := row_kept_new hT0 hg2
   have ha28 := row_fresh hr29 hN24
   have hu30 := row_under hr29 hN24
   have hz31 := hg22.size
   have hO33 := LkP.gr hQ.hA hg2 (fun k e => by cases e)
   have ho32 := off_new (LkP.ofS hO33) hN24
   have hO35 := LkP.gr hQ.hB hg2 (fun k e => by cases e)
   have ho34 := off_new (LkP.ofS hO35) hN24
   try dsimp only at h19
   have hB36 := fbU_new hB7 hg22
   have hr37 := row_kept_new hr8 hg22
   refine dr_many [5, 12] (by kernel_rfl) (by simp) ⟨?_, ?_, trivial⟩
   ·
    have hk38 := hBk.kept hg2 (by simp)
    have hk39 := hk38.kept hg22 (by simp)
    refine dr_opVal (i := 5) (v := wv) h19 rfl rfl rfl rfl (by kernel_rfl) rfl (rn_load1 rfl rfl Try.isAgg67 (hk39.cell rfl)) ⟨hB36, hr37⟩ (fun a40 h40 => ?_); clear h19
    refine dk 7 (v := subV wv 0 i 8) h40 rfl rfl ⟨hB36, hr37⟩ (fun x hx => (rn_sliceTo rfl rfl rfl Try.underlying67 Try.sizeOf61 (row_sl hx.2 segE_len) (by omega) (by omega))) fun a41 h41 => ?_; clear h40
    refine dr_many [8, 12] (by kernel_rfl) (by simp) ⟨?_, ?_, trivial⟩
    ·
     have hr44 := row_of_blkL hk23 (Nat.le_refl _) 8 segE
     have hu45 : ∀ i, Value.ownBlock wv = some i → i < N21 := fun i hi => by have := (hW0.lt i hi).2; omega
     have hu46 : ∀ i, Value.ownBlock tv = some i → i < N21 := fun i hi => by have := (hT0.lt i hi).2; omega
     refine dr_op (i := 8) h41 rfl rfl rfl rfl (op_appendSrc rfl N21 61 (z := .agg #[.int .i64 0, .int .i64 0, .int .i64 0, .int .i64 0, .int .i64 0, .int .i64 0, .bool false, .string (⟨#[]⟩)]) (size := 8) (bytes := 72) Try.underlying67 (by kernel_rfl) rfl rfl rfl hr44 rfl (sl_take (row_sl hr37 segE_len) _ (by omega)) (fun y hy => ⟨segE_len y, segE_one y⟩) (by first | omega | (simp only [List.length_nil, List.length_append, List.length_cons, List.length_take, List.length_drop]; omega)) (by first | omega | (simp only [List.length_nil, List.length_append, List.length_cons, List.length_take, List.length_drop]; omega)) (by omega)) ?_ ?_; clear h41
     ·
      rintro v47 w43 ⟨hr48, hg49⟩
      have hr48' : w43.ownsRow N21 61 8 v47 ((P.W.take i).length) ((P.W.take i).flatMap segE) := row_app (l := []) hr48; clear hr48
      have hz51 := hg49.size
      have hB52 := fbU_row hB36 (InS.low hr44 (by omega)) hg49
      have hr53 := row_kept_ap hr37 hr44 hu45 hg49
      exact ⟨hB52, hr53⟩
     rintro v47 w43 a42 ⟨hr48, hg49⟩ h42
     have hr48' : w43.ownsRow N21 61 8 v47 ((P.W.take i).length) ((P.W.take i).flatMap segE) := row_app (l := []) hr48; clear hr48
     have hz51 := hg49.size
     have hB52 := fbU_row hB36 (InS.low hr44 (by omega)) hg49
     have hr53 := row_kept_ap hr37 hr44 hu45 hg49
     refine dr_many [12] (by kernel_rfl) (by simp) ⟨?_, trivial⟩
     ·
      have hk54 := hk39.kept hg49 (own_neT hr44 hk39 (by decide))
      refine dr_opVal (i := 12) (v := wv) h42 rfl rfl rfl rfl (by kernel_rfl) rfl (rn_load1 rfl rfl Try.isAgg67 (hk54.cell rfl)) ⟨hB52, hr53⟩ (fun a55 h55 => ?_); clear h42
      refine dk 15 (v := subV wv (i + 1) P.W.length 8) h55 rfl rfl ⟨hB52, hr53⟩ (fun x hx => (rn_sliceFrom rfl rfl rfl Try.underlying67 Try.sizeOf61 (row_sl hx.2 segE_len) (by omega) (by omega))) fun a56 h56 => ?_; clear h55
      refine d1 16 h56 rfl rfl (op_appendSrc rfl N21 61 (z := .agg #[.int .i64 0, .int .i64 0, .int .i64 0, .int .i64 0, .int .i64 0, .int .i64 0, .bool false, .string (⟨#[]⟩)]) (size := 8) (bytes := 72) Try.underlying67 (by kernel_rfl) rfl rfl rfl hr48' rfl (sl_drop (row_sl hr53 segE_len) _ (by omega)) (fun y hy => ⟨segE_len y, segE_one y⟩) (by first | omega | (simp only [List.length_nil, List.length_append, List.length_cons, List.length_take, List.length_drop]; omega)) (by first | omega | (simp only [List.length_nil, List.length_append, List.length_cons, List.length_take, List.length_drop]; omega)) (by omega)) ?_ ?_; clear h56
      ·
       rintro v59 w58 ⟨hr60, hg61⟩
       have hr60' : w58.ownsRow N21 61 8 v59 ((P.W.take i ++ (P.W.drop (i + 1))).length) ((P.W.take i ++ (P.W.drop (i + 1))).flatMap segE) := row_app hr60; clear hr60
       have hz63 := hg61.size
       have hB64 := fbU_row hB52 (InS.low hr48' (by omega)) hg61
       have hr65 := row_kept_ap hr53 hr48' hu45 hg61
       exact ⟨hB64, hr65⟩
      rintro v59 w58 a57 ⟨hr60, hg61⟩ h57
      have hr60' : w58.ownsRow N21 61 8 v59 ((P.W.take i ++ (P.W.drop (i + 1))).length) ((P.W.take i ++ (P.W.drop (i + 1))).flatMap segE) := row_app hr60; clear hr60
      have hz63 := hg61.size
      have hB64 := fbU_row hB52 (InS.low hr48' (by omega)) hg61
      have hr65 := row_kept_ap hr53 hr48' hu45 hg61
      refine dk0 17 (v := pt b 0) h57 rfl rfl ⟨hB64, hr65⟩ fun a66 h66 => ?_; clear h57
      refine dk0 18 (v := pt b 4) h66 rfl rfl ⟨hB64, hr65⟩ fun a67 h67 => ?_; clear h66
      have hk73 := hk54.kept hg61 (own_neT hr48' hk54 (by decide))
      refine d1D 19 h67 rfl rfl (op_store1 rfl rfl rfl (row_one hr60') Try.sizeOf67 hk73 rfl) ?_ ?_; clear h67
      ·
       rintro _ w69 ⟨hk70, hz71, hg72⟩
       have hk70' : Blk w69 b 95 #[pt NA 0, pt NB 0, .int .i64 P.b0, .int .i64 P.b1, v59, tv, .int .i64 P.s0, .int .i64 P.s1, .int .i64 P.t0, .int .i64 P.t1, .bool true] := hk70; clear hk70
       have hz74 := hg72.size
       have hB75 := fbU_at hB64 hg72 (fun hlt => by rcases hSb with hq | hq; exact hq; omega)
       have hr76 := row_kept_at hr65 hg72 (own_neT hr65 hk73 (by decide))
       exact ⟨hB75, hr76⟩
      rintro _ w69 a68 ⟨hk70, hz71, hg72⟩ h68
      have hk70' : Blk w69 b 95 #[pt NA 0, pt NB 0, .int .i64 P.b0, .int .i64 P.b1, v59, tv, .int .i64 P.s0, .int .i64 P.s1, .int .i64 P.t0, .int .i64 P.t1, .bool true] := hk70; clear hk70
      have hz74 := hg72.size
      refine dr_done (by kernel_rfl) ?_
      refine co_then ?_
      have hr75 := row_kept_at hr60' hg72 (own_neT hr60' hk73 (by decide))
      have hO76 := LkP.gr hO33 hg22 (fun k e => by cases e)
      have hO77 := LkP.gr hO76 hg49 (fun k e => (offR_row (LkP.ofS hQ.hA) hr44 (by omega)) k e)
      have hO78 := LkP.gr hO77 hg61 (fun k e => (offR_row (LkP.ofS hQ.hA) hr48' (by omega)) k e)
      have hO79 := LkP.gr hO78 hg72 (fun k e => by cases e; exact hQ.nA)
      have hO80 := LkP.gr hO35 hg22 (fun k e => by cases e)
      have hO81 := LkP.gr hO80 hg49 (fun k e => (offR_row (LkP.ofS hQ.hB) hr44 (by omega)) k e)
      have hO82 := LkP.gr hO81 hg61 (fun k e => (offR_row (LkP.ofS hQ.hB) hr48' (by omega)) k e)
      have hO83 := LkP.gr hO82 hg72 (fun k e => by cases e; exact hQ.nB)
      have hr84 := row_kept_new hr29 hg22
      have hr85 := row_kept_ap hr84 hr44 hu46 hg49
      have hr86 := row_kept_ap hr85 hr48' hu46 hg61
      have hr87 := row_kept_at hr86 hg72 (own_neT hr86 hk73 (by decide))
      have hB88 := fbU_at hB64 hg72 (fun hlt => by rcases hSb with hq | hq; exact hq; omega)
      exact ⟨v59, h68.sub ⟨rfl, rfl, trivial⟩, by exact (offR_row (LkP.ofS hQ.hA) hr75 (by omega)), by exact (offR_row (LkP.ofS hQ.hB) hr75 (by omega)), hk70', hO79, hO83, (row_eq (row_lows hr75 (by omega)) (rfl)), hr87, hB88⟩
    ·
     refine dr_opVal (i := 12) (v := wv) h41 rfl rfl rfl rfl (by kernel_rfl) rfl (rn_load1 rfl rfl Try.isAgg67 (hk39.cell rfl)) ⟨hB36, hr37⟩ (fun a89 h89 => ?_); clear h41
     refine dk 15 (v := subV wv (i + 1) P.W.length 8) h89 rfl rfl ⟨hB36, hr37⟩ (fun x hx => (rn_sliceFrom rfl rfl rfl Try.underlying67 Try.sizeOf61 (row_sl hx.2 segE_len) (by omega) (by omega))) fun a90 h90 => ?_; clear h89
     have hr93 := row_of_blkL hk23 (Nat.le_refl _) 8 segE
     have hu94 : ∀ i, Value.ownBlock wv = some i → i < N21 := fun i hi => by have := (hW0.lt i hi).2; omega
     have hu95 : ∀ i, Value.ownBlock tv = some i → i < N21 := fun i hi => by have := (hT0.lt i hi).2; omega
     refine d1 8 h90 rfl rfl (op_appendSrc rfl N21 61 (z := .agg #[.int .i64 0, .int .i64 0, .int .i64 0, .int .i64 0, .int .i64 0, .int .i64 0, .bool false, .string (⟨#[]⟩)]) (size := 8) (bytes := 72) Try.underlying67 (by kernel_rfl) rfl rfl rfl hr93 rfl (sl_take (row_sl hr37 segE_len) _ (by omega)) (fun y hy => ⟨segE_len y, segE_one y⟩) (by first | omega | (simp only [List.length_nil, List.length_append, List.length_cons, List.length_take, List.length_drop]; omega)) (by first | omega | (simp only [List.length_nil, List.length_append, List.length_cons, List.length_take, List.length_drop]; omega)) (by omega)) ?_ ?_; clear h90
     ·
      rintro v96 w92 ⟨hr97, hg98⟩
      have hr97' : w92.ownsRow N21 61 8 v96 ((P.W.take i).length) ((P.W.take i).flatMap segE) := row_app (l := []) hr97; clear hr97
      have hz100 := hg98.size
      have hB101 := fbU_row hB36 (InS.low hr93 (by omega)) hg98
      have hr102 := row_kept_ap hr37 hr93 hu94 hg98
      exact ⟨hB101, hr102⟩
     rintro v96 w92 a91 ⟨hr97, hg98⟩ h91
     have hr97' : w92.ownsRow N21 61 8 v96 ((P.W.take i).length) ((P.W.take i).flatMap segE) := row_app (l := []) hr97; clear hr97
     have hz100 := hg98.size
     have hB101 := fbU_row hB36 (InS.low hr93 (by omega)) hg98
     have hr102 := row_kept_ap hr37 hr93 hu94 hg98
     refine d1 16 h91 rfl rfl (op_appendSrc rfl N21 61 (z := .agg #[.int .i64 0, .int .i64 0, .int .i64 0, .int .i64 0, .int .i64 0, .int .i64 0, .bool false, .string (⟨#[]⟩)]) (size := 8) (bytes := 72) Try.underlying67 (by kernel_rfl) rfl rfl rfl hr97' rfl (sl_drop (row_sl hr102 segE_len) _ (by omega)) (fun y hy => ⟨segE_len y, segE_one y⟩) (by first | omega | (simp only [List.length_nil, List.length_append, List.length_cons, List.length_take, List.length_drop]; omega)) (by first | omega | (simp only [List.length_nil, List.length_append, List.length_cons, List.length_take, List.length_drop]; omega)) (by omega)) ?_ ?_; clear h91
     ·
      rintro v105 w104 ⟨hr106, hg107⟩
      have hr106' : w104.ownsRow N21 61 8 v105 ((P.W.take i ++ (P.W.drop (i + 1))).length) ((P.W.take i ++ (P.W.drop (i + 1))).flatMap segE) := row_app hr106; clear hr106
      have hz109 := hg107.size
      have hk110 := hk39.kept hg98 (own_neT hr93 hk39 (by decide))
      have hB111 := fbU_row hB101 (InS.low hr97' (by omega)) hg107
      have hr112 := row_kept_ap hr102 hr97' hu94 hg107
      exact ⟨hB111, hr112⟩
     rintro v105 w104 a103 ⟨hr106, hg107⟩ h103
     have hr106' : w104.ownsRow N21 61 8 v105 ((P.W.take i ++ (P.W.drop (i + 1))).length) ((P.W.take i ++ (P.W.drop (i + 1))).flatMap segE) := row_app hr106; clear hr106
     have hz109 := hg107.size
     have hk110 := hk39.kept hg98 (own_neT hr93 hk39 (by decide))
     have hB111 := fbU_row hB101 (InS.low hr97' (by omega)) hg107
     have hr112 := row_kept_ap hr102 hr97' hu94 hg107
     refine dk0 17 (v := pt b 0) h103 rfl rfl ⟨hB111, hr112⟩ fun a113 h113 => ?_; clear h103
     refine dk0 18 (v := pt b 4) h113 rfl rfl ⟨hB111, hr112⟩ fun a114 h114 => ?_; clear h113
     have hk120 := hk110.kept hg107 (own_neT hr97' hk110 (by decide))
     refine d1D 19 h114 rfl rfl (op_store1 rfl rfl rfl (row_one hr106') Try.sizeOf67 hk120 rfl) ?_ ?_; clear h114
     ·
      rintro _ w116 ⟨hk117, hz118, hg119⟩
      have hk117' : Blk w116 b 95 #[pt NA 0, pt NB 0, .int .i64 P.b0, .int .i64 P.b1, v105, tv, .int .i64 P.s0, .int .i64 P.s1, .int .i64 P.t0, .int .i64 P.t1, .bool true] := hk117; clear hk117
      have hz121 := hg119.size
      have hB122 := fbU_at hB111 hg119 (fun hlt => by rcases hSb with hq | hq; exact hq; omega)
      have hr123 := row_kept_at hr112 hg119 (own_neT hr112 hk120 (by decide))
      exact ⟨hB122, hr123⟩
     rintro _ w116 a115 ⟨hk117, hz118, hg119⟩ h115
     have hk117' : Blk w116 b 95 #[pt NA 0, pt NB 0, .int .i64 P.b0, .int .i64 P.b1, v105, tv, .int .i64 P.s0, .int .i64 P.s1, .int .i64 P.t0, .int .i64 P.t1, .bool true] := hk117; clear hk117
     have hz121 := hg119.size
     refine dr_done (by kernel_rfl) ?_
     refine co_then ?_
     have hr122 := row_kept_at hr106' hg119 (own_neT hr106' hk120 (by decide))
     have hO123 := LkP.gr hO33 hg22 (fun k e => by cases e)
     have hO124 := LkP.gr hO123 hg98 (fun k e => (offR_row (LkP.ofS hQ.hA) hr93 (by omega)) k e)
     have hO125 := LkP.gr hO124 hg107 (fun k e => (offR_row (LkP.ofS hQ.hA) hr97' (by omega)) k e)
     have hO126 := LkP.gr hO125 hg119 (fun k e => by cases e; exact hQ.nA)
     have hO127 := LkP.gr hO35 hg22 (fun k e => by cases e)
     have hO128 := LkP.gr hO127 hg98 (fun k e => (offR_row (LkP.ofS hQ.hB) hr93 (by omega)) k e)
     have hO129 := LkP.gr hO128 hg107 (fun k e => (offR_row (LkP.ofS hQ.hB) hr97' (by omega)) k e)
     have hO130 := LkP.gr hO129 hg119 (fun k e => by cases e; exact hQ.nB)
     have hr131 := row_kept_new hr29 hg22
     have hr132 := row_kept_ap hr131 hr93 hu95 hg98
     have hr133 := row_kept_ap hr132 hr97' hu95 hg107
     have hr134 := row_kept_at hr133 hg119 (own_neT hr133 hk120 (by decide))
     have hB135 := fbU_at hB111 hg119 (fun hlt => by rcases hSb with hq | hq; exact hq; omega)
     exact ⟨v105, h115.sub ⟨rfl, rfl, trivial⟩, by exact (offR_row (LkP.ofS hQ.hA) hr122 (by omega)), by exact (offR_row (LkP.ofS hQ.hB) hr122 (by omega)), hk117', hO126, hO130, (row_eq (row_lows hr122 (by omega)) (rfl)), hr134, hB135⟩
   ·
    have hk136 := hBk.kept hg2 (by simp)
    have hk137 := hk136.kept hg22 (by simp)
    refine dr_opVal (i := 12) (v := wv) h19 rfl rfl rfl rfl (by kernel_rfl) rfl (rn_load1 rfl rfl Try.isAgg67 (hk137.cell rfl)) ⟨hB36, hr37⟩ (fun a138 h138 => ?_); clear h19
    refine dk 15 (v := subV wv (i + 1) P.W.length 8) h138 rfl rfl ⟨hB36, hr37⟩ (fun x hx => (rn_sliceFrom rfl rfl rfl Try.underlying67 Try.sizeOf61 (row_sl hx.2 segE_len) (by omega) (by omega))) fun a139 h139 => ?_; clear h138
    refine dr_many [5] (by kernel_rfl) (by simp) ⟨?_, trivial⟩
    ·
     refine dr_opVal (i := 5) (v := wv) h139 rfl rfl rfl rfl (by kernel_rfl) rfl (rn_load1 rfl rfl Try.isAgg67 (hk137.cell rfl)) ⟨hB36, hr37⟩ (fun a140 h140 => ?_); clear h139
     refine dk 7 (v := subV wv 0 i 8) h140 rfl rfl ⟨hB36, hr37⟩ (fun x hx => (rn_sliceTo rfl rfl rfl Try.underlying67 Try.sizeOf61 (row_sl hx.2 segE_len) (by omega) (by omega))) fun a141 h141 => ?_; clear h140
     have hr144 := row_of_blkL hk23 (Nat.le_refl _) 8 segE
     have hu145 : ∀ i, Value.ownBlock wv = some i → i < N21 := fun i hi => by have := (hW0.lt i hi).2; omega
     have hu146 : ∀ i, Value.ownBlock tv = some i → i < N21 := fun i hi => by have := (hT0.lt i hi).2; omega
     refine d1 8 h141 rfl rfl (op_appendSrc rfl N21 61 (z := .agg #[.int .i64 0, .int .i64 0, .int .i64 0, .int .i64 0, .int .i64 0, .int .i64 0, .bool false, .string (⟨#[]⟩)]) (size := 8) (bytes := 72) Try.underlying67 (by kernel_rfl) rfl rfl rfl hr144 rfl (sl_take (row_sl hr37 segE_len) _ (by omega)) (fun y hy => ⟨segE_len y, segE_one y⟩) (by first | omega | (simp only [List.length_nil, List.length_append, List.length_cons, List.length_take, List.length_drop]; omega)) (by first | omega | (simp only [List.length_nil, List.length_append, List.length_cons, List.length_take, List.length_drop]; omega)) (by omega)) ?_ ?_; clear h141
     ·
      rintro v147 w143 ⟨hr148, hg149⟩
      have hr148' : w143.ownsRow N21 61 8 v147 ((P.W.take i).length) ((P.W.take i).flatMap segE) := row_app (l := []) hr148; clear hr148
      have hz151 := hg149.size
      have hB152 := fbU_row hB36 (InS.low hr144 (by omega)) hg149
      have hr153 := row_kept_ap hr37 hr144 hu145 hg149
      exact ⟨hB152, hr153⟩
     rintro v147 w143 a142 ⟨hr148, hg149⟩ h142
     have hr148' : w143.ownsRow N21 61 8 v147 ((P.W.take i).length) ((P.W.take i).flatMap segE) := row_app (l := []) hr148; clear hr148
     have hz151 := hg149.size
     have hB152 := fbU_row hB36 (InS.low hr144 (by omega)) hg149
     have hr153 := row_kept_ap hr37 hr144 hu145 hg149
     refine d1 16 h142 rfl rfl (op_appendSrc rfl N21 61 (z := .agg #[.int .i64 0, .int .i64 0, .int .i64 0, .int .i64 0, .int .i64 0, .int .i64 0, .bool false, .string (⟨#[]⟩)]) (size := 8) (bytes := 72) Try.underlying67 (by kernel_rfl) rfl rfl rfl hr148' rfl (sl_drop (row_sl hr153 segE_len) _ (by omega)) (fun y hy => ⟨segE_len y, segE_one y⟩) (by first | omega | (simp only [List.length_nil, List.length_append, List.length_cons, List.length_take, List.length_drop]; omega)) (by first | omega | (simp only [List.length_nil, List.length_append, List.length_cons, List.length_take, List.length_drop]; omega)) (by omega)) ?_ ?_; clear h142
     ·
      rintro v156 w155 ⟨hr157, hg158⟩
      have hr157' : w155.ownsRow N21 61 8 v156 ((P.W.take i ++ (P.W.drop (i + 1))).length) ((P.W.take i ++ (P.W.drop (i + 1))).flatMap segE) := row_app hr157; clear hr157
      have hz160 := hg158.size
      have hk161 := hk137.kept hg149 (own_neT hr144 hk137 (by decide))
      have hB162 := fbU_row hB152 (InS.low hr148' (by omega)) hg158
      have hr163 := row_kept_ap hr153 hr148' hu145 hg158
      exact ⟨hB162, hr163⟩
     rintro v156 w155 a154 ⟨hr157, hg158⟩ h154
     have hr157' : w155.ownsRow N21 61 8 v156 ((P.W.take i ++ (P.W.drop (i + 1))).length) ((P.W.take i ++ (P.W.drop (i + 1))).flatMap segE) := row_app hr157; clear hr157
     have hz160 := hg158.size
     have hk161 := hk137.kept hg149 (own_neT hr144 hk137 (by decide))
     have hB162 := fbU_row hB152 (InS.low hr148' (by omega)) hg158
     have hr163 := row_kept_ap hr153 hr148' hu145 hg158
     refine dk0 17 (v := pt b 0) h154 rfl rfl ⟨hB162, hr163⟩ fun a164 h164 => ?_; clear h154
     refine dk0 18 (v := pt b 4) h164 rfl rfl ⟨hB162, hr163⟩ fun a165 h165 => ?_; clear h164
     have hk171 := hk161.kept hg158 (own_neT hr148' hk161 (by decide))
     refine d1D 19 h165 rfl rfl (op_store1 rfl rfl rfl (row_one hr157') Try.sizeOf67 hk171 rfl) ?_ ?_; clear h165
     ·
      rintro _ w167 ⟨hk168, hz169, hg170⟩
      have hk168' : Blk w167 b 95 #[pt NA 0, pt NB 0, .int .i64 P.b0, .int .i64 P.b1, v156, tv, .int .i64 P.s0, .int .i64 P.s1, .int .i64 P.t0, .int .i64 P.t1, .bool true] := hk168; clear hk168
      have hz172 := hg170.size
      have hB173 := fbU_at hB162 hg170 (fun hlt => by rcases hSb with hq | hq; exact hq; omega)
      have hr174 := row_kept_at hr163 hg170 (own_neT hr163 hk171 (by decide))
      exact ⟨hB173, hr174⟩
     rintro _ w167 a166 ⟨hk168, hz169, hg170⟩ h166
     have hk168' : Blk w167 b 95 #[pt NA 0, pt NB 0, .int .i64 P.b0, .int .i64 P.b1, v156, tv, .int .i64 P.s0, .int .i64 P.s1, .int .i64 P.t0, .int .i64 P.t1, .bool true] := hk168; clear hk168
     have hz172 := hg170.size
     refine dr_done (by kernel_rfl) ?_
     refine co_then ?_
     have hr173 := row_kept_at hr157' hg170 (own_neT hr157' hk171 (by decide))
     have hO174 := LkP.gr hO33 hg22 (fun k e => by cases e)
     have hO175 := LkP.gr hO174 hg149 (fun k e => (offR_row (LkP.ofS hQ.hA) hr144 (by omega)) k e)
     have hO176 := LkP.gr hO175 hg158 (fun k e => (offR_row (LkP.ofS hQ.hA) hr148' (by omega)) k e)
     have hO177 := LkP.gr hO176 hg170 (fun k e => by cases e; exact hQ.nA)
     have hO178 := LkP.gr hO35 hg22 (fun k e => by cases e)
     have hO179 := LkP.gr hO178 hg149 (fun k e => (offR_row (LkP.ofS hQ.hB) hr144 (by omega)) k e)
     have hO180 := LkP.gr hO179 hg158 (fun k e => (offR_row (LkP.ofS hQ.hB) hr148' (by omega)) k e)
     have hO181 := LkP.gr hO180 hg170 (fun k e => by cases e; exact hQ.nB)
     have hr182 := row_kept_new hr29 hg22
     have hr183 := row_kept_ap hr182 hr144 hu146 hg149
     have hr184 := row_kept_ap hr183 hr148' hu146 hg158
     have hr185 := row_kept_at hr184 hg170 (own_neT hr184 hk171 (by decide))
     have hB186 := fbU_at hB162 hg170 (fun hlt => by rcases hSb with hq | hq; exact hq; omega)
     exact ⟨v156, h166.sub ⟨rfl, rfl, trivial⟩, by exact (offR_row (LkP.ofS hQ.hA) hr173 (by omega)), by exact (offR_row (LkP.ofS hQ.hB) hr173 (by omega)), hk168', hO177, hO181, (row_eq (row_lows hr173 (by omega)) (rfl)), hr185, hB186⟩
  ·
   have hk187 := hBk.kept hg2 (by simp)
   refine dr_opVal (i := 5) (v := wv) h18 rfl rfl rfl rfl (by kernel_rfl) rfl (rn_load1 rfl rfl Try.isAgg67 (hk187.cell rfl)) ⟨hB7, hr8⟩ (fun a188 h188 => ?_); clear h18
   refine dk 7 (v := subV wv 0 i 8) h188 rfl rfl ⟨hB7, hr8⟩ (fun x hx => (rn_sliceTo rfl rfl rfl Try.underlying67 Try.sizeOf61 (row_sl hx.2 segE_len) (by omega) (by omega))) fun a189 h189 => ?_; clear h188
   refine dr_many [1, 12] (by kernel_rfl) (by simp) ⟨?_, ?_, trivial⟩
   ·
    refine dr_op (i := 1) h189 rfl rfl rfl rfl (op_new (v := fun N => .slice (some ⟨N, 0, none⟩) 0 0) (T := 61) (cs := #[]) (by kernel_rfl) (by kernel_rfl) (by kernel_rfl)) ?_ ?_; clear h189
    ·
     rintro _ w191 ⟨N192, rfl, hN195, hz196, hk194, hg193⟩
     have ha197 := row_fresh hr8 hN195
     have hu198 := row_under hr8 hN195
     have hr200 := row_kept_new hT0 hg2
     have ha199 := row_fresh hr200 hN195
     have hu201 := row_under hr200 hN195
     have hz202 := hg193.size
     have hO204 := LkP.gr hQ.hA hg2 (fun k e => by cases e)
     have ho203 := off_new (LkP.ofS hO204) hN195
     have hO206 := LkP.gr hQ.hB hg2 (fun k e => by cases e)
     have ho205 := off_new (LkP.ofS hO206) hN195
     have hB207 := fbU_new hB7 hg193
     have hr208 := row_kept_new hr8 hg193
     exact ⟨hB207, hr208⟩
    rintro _ w191 a190 ⟨N192, rfl, hN195, hz196, hk194, hg193⟩ h190
    have ha197 := row_fresh hr8 hN195
    have hu198 := row_under hr8 hN195
    have hr200 := row_kept_new hT0 hg2
    have ha199 := row_fresh hr200 hN195
    have hu201 := row_under hr200 hN195
    have hz202 := hg193.size
    have hO204 := LkP.gr hQ.hA hg2 (fun k e => by cases e)
    have ho203 := off_new (LkP.ofS hO204) hN195
    have hO206 := LkP.gr hQ.hB hg2 (fun k e => by cases e)
    have ho205 := off_new (LkP.ofS hO206) hN195
    try dsimp only at h190
    have hB207 := fbU_new hB7 hg193
    have hr208 := row_kept_new hr8 hg193
    refine dr_many [8, 12] (by kernel_rfl) (by simp) ⟨?_, ?_, trivial⟩
    ·
     have hr211 := row_of_blkL hk194 (Nat.le_refl _) 8 segE
     have hu212 : ∀ i, Value.ownBlock wv = some i → i < N192 := fun i hi => by have := (hW0.lt i hi).2; omega
     have hu213 : ∀ i, Value.ownBlock tv = some i → i < N192 := fun i hi => by have := (hT0.lt i hi).2; omega
     refine dr_op (i := 8) h190 rfl rfl rfl rfl (op_appendSrc rfl N192 61 (z := .agg #[.int .i64 0, .int .i64 0, .int .i64 0, .int .i64 0, .int .i64 0, .int .i64 0, .bool false, .string (⟨#[]⟩)]) (size := 8) (bytes := 72) Try.underlying67 (by kernel_rfl) rfl rfl rfl hr211 rfl (sl_take (row_sl hr208 segE_len) _ (by omega)) (fun y hy => ⟨segE_len y, segE_one y⟩) (by first | omega | (simp only [List.length_nil, List.length_append, List.length_cons, List.length_take, List.length_drop]; omega)) (by first | omega | (simp only [List.length_nil, List.length_append, List.length_cons, List.length_take, List.length_drop]; omega)) (by omega)) ?_ ?_; clear h190
     ·
      rintro v214 w210 ⟨hr215, hg216⟩
      have hr215' : w210.ownsRow N192 61 8 v214 ((P.W.take i).length) ((P.W.take i).flatMap segE) := row_app (l := []) hr215; clear hr215
      have hz218 := hg216.size
      have hk219 := hk187.kept hg193 (by simp)
      have hB220 := fbU_row hB207 (InS.low hr211 (by omega)) hg216
      have hr221 := row_kept_ap hr208 hr211 hu212 hg216
      exact ⟨hB220, hr221⟩
     rintro v214 w210 a209 ⟨hr215, hg216⟩ h209
     have hr215' : w210.ownsRow N192 61 8 v214 ((P.W.take i).length) ((P.W.take i).flatMap segE) := row_app (l := []) hr215; clear hr215
     have hz218 := hg216.size
     have hk219 := hk187.kept hg193 (by simp)
     have hB220 := fbU_row hB207 (InS.low hr211 (by omega)) hg216
     have hr221 := row_kept_ap hr208 hr211 hu212 hg216
     refine dr_many [12] (by kernel_rfl) (by simp) ⟨?_, trivial⟩
     ·
      have hk222 := hk219.kept hg216 (own_neT hr211 hk219 (by decide))
      refine dr_opVal (i := 12) (v := wv) h209 rfl rfl rfl rfl (by kernel_rfl) rfl (rn_load1 rfl rfl Try.isAgg67 (hk222.cell rfl)) ⟨hB220, hr221⟩ (fun a223 h223 => ?_); clear h209
      refine dk 15 (v := subV wv (i + 1) P.W.length 8) h223 rfl rfl ⟨hB220, hr221⟩ (fun x hx => (rn_sliceFrom rfl rfl rfl Try.underlying67 Try.sizeOf61 (row_sl hx.2 segE_len) (by omega) (by omega))) fun a224 h224 => ?_; clear h223
      refine d1 16 h224 rfl rfl (op_appendSrc rfl N192 61 (z := .agg #[.int .i64 0, .int .i64 0, .int .i64 0, .int .i64 0, .int .i64 0, .int .i64 0, .bool false, .string (⟨#[]⟩)]) (size := 8) (bytes := 72) Try.underlying67 (by kernel_rfl) rfl rfl rfl hr215' rfl (sl_drop (row_sl hr221 segE_len) _ (by omega)) (fun y hy => ⟨segE_len y, segE_one y⟩) (by first | omega | (simp only [List.length_nil, List.length_append, List.length_cons, List.length_take, List.length_drop]; omega)) (by first | omega | (simp only [List.length_nil, List.length_append, List.length_cons, List.length_take, List.length_drop]; omega)) (by omega)) ?_ ?_; clear h224
      ·
       rintro v227 w226 ⟨hr228, hg229⟩
       have hr228' : w226.ownsRow N192 61 8 v227 ((P.W.take i ++ (P.W.drop (i + 1))).length) ((P.W.take i ++ (P.W.drop (i + 1))).flatMap segE) := row_app hr228; clear hr228
       have hz231 := hg229.size
       have hB232 := fbU_row hB220 (InS.low hr215' (by omega)) hg229
       have hr233 := row_kept_ap hr221 hr215' hu212 hg229
       exact ⟨hB232, hr233⟩
      rintro v227 w226 a225 ⟨hr228, hg229⟩ h225
      have hr228' : w226.ownsRow N192 61 8 v227 ((P.W.take i ++ (P.W.drop (i + 1))).length) ((P.W.take i ++ (P.W.drop (i + 1))).flatMap segE) := row_app hr228; clear hr228
      have hz231 := hg229.size
      have hB232 := fbU_row hB220 (InS.low hr215' (by omega)) hg229
      have hr233 := row_kept_ap hr221 hr215' hu212 hg229
      refine dk0 17 (v := pt b 0) h225 rfl rfl ⟨hB232, hr233⟩ fun a234 h234 => ?_; clear h225
      refine dk0 18 (v := pt b 4) h234 rfl rfl ⟨hB232, hr233⟩ fun a235 h235 => ?_; clear h234
      have hk241 := hk222.kept hg229 (own_neT hr215' hk222 (by decide))
      refine d1D 19 h235 rfl rfl (op_store1 rfl rfl rfl (row_one hr228') Try.sizeOf67 hk241 rfl) ?_ ?_; clear h235
      ·
       rintro _ w237 ⟨hk238, hz239, hg240⟩
       have hk238' : Blk w237 b 95 #[pt NA 0, pt NB 0, .int .i64 P.b0, .int .i64 P.b1, v227, tv, .int .i64 P.s0, .int .i64 P.s1, .int .i64 P.t0, .int .i64 P.t1, .bool true] := hk238; clear hk238
       have hz242 := hg240.size
       have hB243 := fbU_at hB232 hg240 (fun hlt => by rcases hSb with hq | hq; exact hq; omega)
       have hr244 := row_kept_at hr233 hg240 (own_neT hr233 hk241 (by decide))
       exact ⟨hB243, hr244⟩
      rintro _ w237 a236 ⟨hk238, hz239, hg240⟩ h236
      have hk238' : Blk w237 b 95 #[pt NA 0, pt NB 0, .int .i64 P.b0, .int .i64 P.b1, v227, tv, .int .i64 P.s0, .int .i64 P.s1, .int .i64 P.t0, .int .i64 P.t1, .bool true] := hk238; clear hk238
      have hz242 := hg240.size
      refine dr_done (by kernel_rfl) ?_
      refine co_then ?_
      have hr243 := row_kept_at hr228' hg240 (own_neT hr228' hk241 (by decide))
      have hO244 := LkP.gr hO204 hg193 (fun k e => by cases e)
      have hO245 := LkP.gr hO244 hg216 (fun k e => (offR_row (LkP.ofS hQ.hA) hr211 (by omega)) k e)
      have hO246 := LkP.gr hO245 hg229 (fun k e => (offR_row (LkP.ofS hQ.hA) hr215' (by omega)) k e)
      have hO247 := LkP.gr hO246 hg240 (fun k e => by cases e; exact hQ.nA)
      have hO248 := LkP.gr hO206 hg193 (fun k e => by cases e)
      have hO249 := LkP.gr hO248 hg216 (fun k e => (offR_row (LkP.ofS hQ.hB) hr211 (by omega)) k e)
      have hO250 := LkP.gr hO249 hg229 (fun k e => (offR_row (LkP.ofS hQ.hB) hr215' (by omega)) k e)
      have hO251 := LkP.gr hO250 hg240 (fun k e => by cases e; exact hQ.nB)
      have hr252 := row_kept_new hr200 hg193
      have hr253 := row_kept_ap hr252 hr211 hu213 hg216
      have hr254 := row_kept_ap hr253 hr215' hu213 hg229
      have hr255 := row_kept_at hr254 hg240 (own_neT hr254 hk241 (by decide))
      have hB256 := fbU_at hB232 hg240 (fun hlt => by rcases hSb with hq | hq; exact hq; omega)
      exact ⟨v227, h236.sub ⟨rfl, rfl, trivial⟩, by exact (offR_row (LkP.ofS hQ.hA) hr243 (by omega)), by exact (offR_row (LkP.ofS hQ.hB) hr243 (by omega)), hk238', hO247, hO251, (row_eq (row_lows hr243 (by omega)) (rfl)), hr255, hB256⟩
    ·
     have hk257 := hk187.kept hg193 (by simp)
     refine dr_opVal (i := 12) (v := wv) h190 rfl rfl rfl rfl (by kernel_rfl) rfl (rn_load1 rfl rfl Try.isAgg67 (hk257.cell rfl)) ⟨hB207, hr208⟩ (fun a258 h258 => ?_); clear h190
     refine dk 15 (v := subV wv (i + 1) P.W.length 8) h258 rfl rfl ⟨hB207, hr208⟩ (fun x hx => (rn_sliceFrom rfl rfl rfl Try.underlying67 Try.sizeOf61 (row_sl hx.2 segE_len) (by omega) (by omega))) fun a259 h259 => ?_; clear h258
     have hr262 := row_of_blkL hk194 (Nat.le_refl _) 8 segE
     have hu263 : ∀ i, Value.ownBlock wv = some i → i < N192 := fun i hi => by have := (hW0.lt i hi).2; omega
     have hu264 : ∀ i, Value.ownBlock tv = some i → i < N192 := fun i hi => by have := (hT0.lt i hi).2; omega
     refine d1 8 h259 rfl rfl (op_appendSrc rfl N192 61 (z := .agg #[.int .i64 0, .int .i64 0, .int .i64 0, .int .i64 0, .int .i64 0, .int .i64 0, .bool false, .string (⟨#[]⟩)]) (size := 8) (bytes := 72) Try.underlying67 (by kernel_rfl) rfl rfl rfl hr262 rfl (sl_take (row_sl hr208 segE_len) _ (by omega)) (fun y hy => ⟨segE_len y, segE_one y⟩) (by first | omega | (simp only [List.length_nil, List.length_append, List.length_cons, List.length_take, List.length_drop]; omega)) (by first | omega | (simp only [List.length_nil, List.length_append, List.length_cons, List.length_take, List.length_drop]; omega)) (by omega)) ?_ ?_; clear h259
     ·
      rintro v265 w261 ⟨hr266, hg267⟩
      have hr266' : w261.ownsRow N192 61 8 v265 ((P.W.take i).length) ((P.W.take i).flatMap segE) := row_app (l := []) hr266; clear hr266
      have hz269 := hg267.size
      have hB270 := fbU_row hB207 (InS.low hr262 (by omega)) hg267
      have hr271 := row_kept_ap hr208 hr262 hu263 hg267
      exact ⟨hB270, hr271⟩
     rintro v265 w261 a260 ⟨hr266, hg267⟩ h260
     have hr266' : w261.ownsRow N192 61 8 v265 ((P.W.take i).length) ((P.W.take i).flatMap segE) := row_app (l := []) hr266; clear hr266
     have hz269 := hg267.size
     have hB270 := fbU_row hB207 (InS.low hr262 (by omega)) hg267
     have hr271 := row_kept_ap hr208 hr262 hu263 hg267
     refine d1 16 h260 rfl rfl (op_appendSrc rfl N192 61 (z := .agg #[.int .i64 0, .int .i64 0, .int .i64 0, .int .i64 0, .int .i64 0, .int .i64 0, .bool false, .string (⟨#[]⟩)]) (size := 8) (bytes := 72) Try.underlying67 (by kernel_rfl) rfl rfl rfl hr266' rfl (sl_drop (row_sl hr271 segE_len) _ (by omega)) (fun y hy => ⟨segE_len y, segE_one y⟩) (by first | omega | (simp only [List.length_nil, List.length_append, List.length_cons, List.length_take, List.length_drop]; omega)) (by first | omega | (simp only [List.length_nil, List.length_append, List.length_cons, List.length_take, List.length_drop]; omega)) (by omega)) ?_ ?_; clear h260
     ·
      rintro v274 w273 ⟨hr275, hg276⟩
      have hr275' : w273.ownsRow N192 61 8 v274 ((P.W.take i ++ (P.W.drop (i + 1))).length) ((P.W.take i ++ (P.W.drop (i + 1))).flatMap segE) := row_app hr275; clear hr275
      have hz278 := hg276.size
      have hk279 := hk257.kept hg267 (own_neT hr262 hk257 (by decide))
      have hB280 := fbU_row hB270 (InS.low hr266' (by omega)) hg276
      have hr281 := row_kept_ap hr271 hr266' hu263 hg276
      exact ⟨hB280, hr281⟩
     rintro v274 w273 a272 ⟨hr275, hg276⟩ h272
     have hr275' : w273.ownsRow N192 61 8 v274 ((P.W.take i ++ (P.W.drop (i + 1))).length) ((P.W.take i ++ (P.W.drop (i + 1))).flatMap segE) := row_app hr275; clear hr275
     have hz278 := hg276.size
     have hk279 := hk257.kept hg267 (own_neT hr262 hk257 (by decide))
     have hB280 := fbU_row hB270 (InS.low hr266' (by omega)) hg276
     have hr281 := row_kept_ap hr271 hr266' hu263 hg276
     refine dk0 17 (v := pt b 0) h272 rfl rfl ⟨hB280, hr281⟩ fun a282 h282 => ?_; clear h272
     refine dk0 18 (v := pt b 4) h282 rfl rfl ⟨hB280, hr281⟩ fun a283 h283 => ?_; clear h282
     have hk289 := hk279.kept hg276 (own_neT hr266' hk279 (by decide))
     refine d1D 19 h283 rfl rfl (op_store1 rfl rfl rfl (row_one hr275') Try.sizeOf67 hk289 rfl) ?_ ?_; clear h283
     ·
      rintro _ w285 ⟨hk286, hz287, hg288⟩
      have hk286' : Blk w285 b 95 #[pt NA 0, pt NB 0, .int .i64 P.b0, .int .i64 P.b1, v274, tv, .int .i64 P.s0, .int .i64 P.s1, .int .i64 P.t0, .int .i64 P.t1, .bool true] := hk286; clear hk286
      have hz290 := hg288.size
      have hB291 := fbU_at hB280 hg288 (fun hlt => by rcases hSb with hq | hq; exact hq; omega)
      have hr292 := row_kept_at hr281 hg288 (own_neT hr281 hk289 (by decide))
      exact ⟨hB291, hr292⟩
     rintro _ w285 a284 ⟨hk286, hz287, hg288⟩ h284
     have hk286' : Blk w285 b 95 #[pt NA 0, pt NB 0, .int .i64 P.b0, .int .i64 P.b1, v274, tv, .int .i64 P.s0, .int .i64 P.s1, .int .i64 P.t0, .int .i64 P.t1, .bool true] := hk286; clear hk286
     have hz290 := hg288.size
     refine dr_done (by kernel_rfl) ?_
     refine co_then ?_
     have hr291 := row_kept_at hr275' hg288 (own_neT hr275' hk289 (by decide))
     have hO292 := LkP.gr hO204 hg193 (fun k e => by cases e)
     have hO293 := LkP.gr hO292 hg267 (fun k e => (offR_row (LkP.ofS hQ.hA) hr262 (by omega)) k e)
     have hO294 := LkP.gr hO293 hg276 (fun k e => (offR_row (LkP.ofS hQ.hA) hr266' (by omega)) k e)
     have hO295 := LkP.gr hO294 hg288 (fun k e => by cases e; exact hQ.nA)
     have hO296 := LkP.gr hO206 hg193 (fun k e => by cases e)
     have hO297 := LkP.gr hO296 hg267 (fun k e => (offR_row (LkP.ofS hQ.hB) hr262 (by omega)) k e)
     have hO298 := LkP.gr hO297 hg276 (fun k e => (offR_row (LkP.ofS hQ.hB) hr266' (by omega)) k e)
     have hO299 := LkP.gr hO298 hg288 (fun k e => by cases e; exact hQ.nB)
     have hr300 := row_kept_new hr200 hg193
     have hr301 := row_kept_ap hr300 hr262 hu264 hg267
     have hr302 := row_kept_ap hr301 hr266' hu264 hg276
     have hr303 := row_kept_at hr302 hg288 (own_neT hr302 hk289 (by decide))
     have hB304 := fbU_at hB280 hg288 (fun hlt => by rcases hSb with hq | hq; exact hq; omega)
     exact ⟨v274, h284.sub ⟨rfl, rfl, trivial⟩, by exact (offR_row (LkP.ofS hQ.hA) hr291 (by omega)), by exact (offR_row (LkP.ofS hQ.hB) hr291 (by omega)), hk286', hO295, hO299, (row_eq (row_lows hr291 (by omega)) (rfl)), hr303, hB304⟩
   ·
    refine dr_opVal (i := 12) (v := wv) h189 rfl rfl rfl rfl (by kernel_rfl) rfl (rn_load1 rfl rfl Try.isAgg67 (hk187.cell rfl)) ⟨hB7, hr8⟩ (fun a305 h305 => ?_); clear h189
    refine dk 15 (v := subV wv (i + 1) P.W.length 8) h305 rfl rfl ⟨hB7, hr8⟩ (fun x hx => (rn_sliceFrom rfl rfl rfl Try.underlying67 Try.sizeOf61 (row_sl hx.2 segE_len) (by omega) (by omega))) fun a306 h306 => ?_; clear h305
    refine d1 1 h306 rfl rfl (op_new (v := fun N => .slice (some ⟨N, 0, none⟩) 0 0) (T := 61) (cs := #[]) (by kernel_rfl) (by kernel_rfl) (by kernel_rfl)) ?_ ?_; clear h306
    ·
     rintro _ w308 ⟨N309, rfl, hN312, hz313, hk311, hg310⟩
     have ha314 := row_fresh hr8 hN312
     have hu315 := row_under hr8 hN312
     have hr317 := row_kept_new hT0 hg2
     have ha316 := row_fresh hr317 hN312
     have hu318 := row_under hr317 hN312
     have hz319 := hg310.size
     have hO321 := LkP.gr hQ.hA hg2 (fun k e => by cases e)
     have ho320 := off_new (LkP.ofS hO321) hN312
     have hO323 := LkP.gr hQ.hB hg2 (fun k e => by cases e)
     have ho322 := off_new (LkP.ofS hO323) hN312
     have hB324 := fbU_new hB7 hg310
     have hr325 := row_kept_new hr8 hg310
     exact ⟨hB324, hr325⟩
    rintro _ w308 a307 ⟨N309, rfl, hN312, hz313, hk311, hg310⟩ h307
    have ha314 := row_fresh hr8 hN312
    have hu315 := row_under hr8 hN312
    have hr317 := row_kept_new hT0 hg2
    have ha316 := row_fresh hr317 hN312
    have hu318 := row_under hr317 hN312
    have hz319 := hg310.size
    have hO321 := LkP.gr hQ.hA hg2 (fun k e => by cases e)
    have ho320 := off_new (LkP.ofS hO321) hN312
    have hO323 := LkP.gr hQ.hB hg2 (fun k e => by cases e)
    have ho322 := off_new (LkP.ofS hO323) hN312
    try dsimp only at h307
    have hB324 := fbU_new hB7 hg310
    have hr325 := row_kept_new hr8 hg310
    have hr328 := row_of_blkL hk311 (Nat.le_refl _) 8 segE
    have hu329 : ∀ i, Value.ownBlock wv = some i → i < N309 := fun i hi => by have := (hW0.lt i hi).2; omega
    have hu330 : ∀ i, Value.ownBlock tv = some i → i < N309 := fun i hi => by have := (hT0.lt i hi).2; omega
    refine d1 8 h307 rfl rfl (op_appendSrc rfl N309 61 (z := .agg #[.int .i64 0, .int .i64 0, .int .i64 0, .int .i64 0, .int .i64 0, .int .i64 0, .bool false, .string (⟨#[]⟩)]) (size := 8) (bytes := 72) Try.underlying67 (by kernel_rfl) rfl rfl rfl hr328 rfl (sl_take (row_sl hr325 segE_len) _ (by omega)) (fun y hy => ⟨segE_len y, segE_one y⟩) (by first | omega | (simp only [List.length_nil, List.length_append, List.length_cons, List.length_take, List.length_drop]; omega)) (by first | omega | (simp only [List.length_nil, List.length_append, List.length_cons, List.length_take, List.length_drop]; omega)) (by omega)) ?_ ?_; clear h307
    ·
     rintro v331 w327 ⟨hr332, hg333⟩
     have hr332' : w327.ownsRow N309 61 8 v331 ((P.W.take i).length) ((P.W.take i).flatMap segE) := row_app (l := []) hr332; clear hr332
     have hz335 := hg333.size
     have hk336 := hk187.kept hg310 (by simp)
     have hB337 := fbU_row hB324 (InS.low hr328 (by omega)) hg333
     have hr338 := row_kept_ap hr325 hr328 hu329 hg333
     exact ⟨hB337, hr338⟩
    rintro v331 w327 a326 ⟨hr332, hg333⟩ h326
    have hr332' : w327.ownsRow N309 61 8 v331 ((P.W.take i).length) ((P.W.take i).flatMap segE) := row_app (l := []) hr332; clear hr332
    have hz335 := hg333.size
    have hk336 := hk187.kept hg310 (by simp)
    have hB337 := fbU_row hB324 (InS.low hr328 (by omega)) hg333
    have hr338 := row_kept_ap hr325 hr328 hu329 hg333
    refine d1 16 h326 rfl rfl (op_appendSrc rfl N309 61 (z := .agg #[.int .i64 0, .int .i64 0, .int .i64 0, .int .i64 0, .int .i64 0, .int .i64 0, .bool false, .string (⟨#[]⟩)]) (size := 8) (bytes := 72) Try.underlying67 (by kernel_rfl) rfl rfl rfl hr332' rfl (sl_drop (row_sl hr338 segE_len) _ (by omega)) (fun y hy => ⟨segE_len y, segE_one y⟩) (by first | omega | (simp only [List.length_nil, List.length_append, List.length_cons, List.length_take, List.length_drop]; omega)) (by first | omega | (simp only [List.length_nil, List.length_append, List.length_cons, List.length_take, List.length_drop]; omega)) (by omega)) ?_ ?_; clear h326
    ·
     rintro v341 w340 ⟨hr342, hg343⟩
     have hr342' : w340.ownsRow N309 61 8 v341 ((P.W.take i ++ (P.W.drop (i + 1))).length) ((P.W.take i ++ (P.W.drop (i + 1))).flatMap segE) := row_app hr342; clear hr342
     have hz345 := hg343.size
     have hk346 := hk336.kept hg333 (own_neT hr328 hk336 (by decide))
     have hB347 := fbU_row hB337 (InS.low hr332' (by omega)) hg343
     have hr348 := row_kept_ap hr338 hr332' hu329 hg343
     exact ⟨hB347, hr348⟩
    rintro v341 w340 a339 ⟨hr342, hg343⟩ h339
    have hr342' : w340.ownsRow N309 61 8 v341 ((P.W.take i ++ (P.W.drop (i + 1))).length) ((P.W.take i ++ (P.W.drop (i + 1))).flatMap segE) := row_app hr342; clear hr342
    have hz345 := hg343.size
    have hk346 := hk336.kept hg333 (own_neT hr328 hk336 (by decide))
    have hB347 := fbU_row hB337 (InS.low hr332' (by omega)) hg343
    have hr348 := row_kept_ap hr338 hr332' hu329 hg343
    refine dk0 17 (v := pt b 0) h339 rfl rfl ⟨hB347, hr348⟩ fun a349 h349 => ?_; clear h339
    refine dk0 18 (v := pt b 4) h349 rfl rfl ⟨hB347, hr348⟩ fun a350 h350 => ?_; clear h349
    have hk356 := hk346.kept hg343 (own_neT hr332' hk346 (by decide))
    refine d1D 19 h350 rfl rfl (op_store1 rfl rfl rfl (row_one hr342') Try.sizeOf67 hk356 rfl) ?_ ?_; clear h350
    ·
     rintro _ w352 ⟨hk353, hz354, hg355⟩
     have hk353' : Blk w352 b 95 #[pt NA 0, pt NB 0, .int .i64 P.b0, .int .i64 P.b1, v341, tv, .int .i64 P.s0, .int .i64 P.s1, .int .i64 P.t0, .int .i64 P.t1, .bool true] := hk353; clear hk353
     have hz357 := hg355.size
     have hB358 := fbU_at hB347 hg355 (fun hlt => by rcases hSb with hq | hq; exact hq; omega)
     have hr359 := row_kept_at hr348 hg355 (own_neT hr348 hk356 (by decide))
     exact ⟨hB358, hr359⟩
    rintro _ w352 a351 ⟨hk353, hz354, hg355⟩ h351
    have hk353' : Blk w352 b 95 #[pt NA 0, pt NB 0, .int .i64 P.b0, .int .i64 P.b1, v341, tv, .int .i64 P.s0, .int .i64 P.s1, .int .i64 P.t0, .int .i64 P.t1, .bool true] := hk353; clear hk353
    have hz357 := hg355.size
    refine dr_done (by kernel_rfl) ?_
    refine co_then ?_
    have hr358 := row_kept_at hr342' hg355 (own_neT hr342' hk356 (by decide))
    have hO359 := LkP.gr hO321 hg310 (fun k e => by cases e)
    have hO360 := LkP.gr hO359 hg333 (fun k e => (offR_row (LkP.ofS hQ.hA) hr328 (by omega)) k e)
    have hO361 := LkP.gr hO360 hg343 (fun k e => (offR_row (LkP.ofS hQ.hA) hr332' (by omega)) k e)
    have hO362 := LkP.gr hO361 hg355 (fun k e => by cases e; exact hQ.nA)
    have hO363 := LkP.gr hO323 hg310 (fun k e => by cases e)
    have hO364 := LkP.gr hO363 hg333 (fun k e => (offR_row (LkP.ofS hQ.hB) hr328 (by omega)) k e)
    have hO365 := LkP.gr hO364 hg343 (fun k e => (offR_row (LkP.ofS hQ.hB) hr332' (by omega)) k e)
    have hO366 := LkP.gr hO365 hg355 (fun k e => by cases e; exact hQ.nB)
    have hr367 := row_kept_new hr317 hg310
    have hr368 := row_kept_ap hr367 hr328 hu330 hg333
    have hr369 := row_kept_ap hr368 hr332' hu330 hg343
    have hr370 := row_kept_at hr369 hg355 (own_neT hr369 hk356 (by decide))
    have hB371 := fbU_at hB347 hg355 (fun hlt => by rcases hSb with hq | hq; exact hq; omega)
    exact ⟨v341, h351.sub ⟨rfl, rfl, trivial⟩, by exact (offR_row (LkP.ofS hQ.hA) hr358 (by omega)), by exact (offR_row (LkP.ofS hQ.hB) hr358 (by omega)), hk353', hO362, hO366, (row_eq (row_lows hr358 (by omega)) (rfl)), hr370, hB371⟩
  ·
   have hk372 := hBk.kept hg2 (by simp)
   refine dr_opVal (i := 12) (v := wv) h18 rfl rfl rfl rfl (by kernel_rfl) rfl (rn_load1 rfl rfl Try.isAgg67 (hk372.cell rfl)) ⟨hB7, hr8⟩ (fun a373 h373 => ?_); clear h18
   refine dk 15 (v := subV wv (i + 1) P.W.length 8) h373 rfl rfl ⟨hB7, hr8⟩ (fun x hx => (rn_sliceFrom rfl rfl rfl Try.underlying67 Try.sizeOf61 (row_sl hx.2 segE_len) (by omega) (by omega))) fun a374 h374 => ?_; clear h373
   refine dr_many [1, 5] (by kernel_rfl) (by simp) ⟨?_, ?_, trivial⟩
   ·
    refine dr_op (i := 1) h374 rfl rfl rfl rfl (op_new (v := fun N => .slice (some ⟨N, 0, none⟩) 0 0) (T := 61) (cs := #[]) (by kernel_rfl) (by kernel_rfl) (by kernel_rfl)) ?_ ?_; clear h374
    ·
     rintro _ w376 ⟨N377, rfl, hN380, hz381, hk379, hg378⟩
     have ha382 := row_fresh hr8 hN380
     have hu383 := row_under hr8 hN380
     have hr385 := row_kept_new hT0 hg2
     have ha384 := row_fresh hr385 hN380
     have hu386 := row_under hr385 hN380
     have hz387 := hg378.size
     have hO389 := LkP.gr hQ.hA hg2 (fun k e => by cases e)
     have ho388 := off_new (LkP.ofS hO389) hN380
     have hO391 := LkP.gr hQ.hB hg2 (fun k e => by cases e)
     have ho390 := off_new (LkP.ofS hO391) hN380
     have hB392 := fbU_new hB7 hg378
     have hr393 := row_kept_new hr8 hg378
     exact ⟨hB392, hr393⟩
    rintro _ w376 a375 ⟨N377, rfl, hN380, hz381, hk379, hg378⟩ h375
    have ha382 := row_fresh hr8 hN380
    have hu383 := row_under hr8 hN380
    have hr385 := row_kept_new hT0 hg2
    have ha384 := row_fresh hr385 hN380
    have hu386 := row_under hr385 hN380
    have hz387 := hg378.size
    have hO389 := LkP.gr hQ.hA hg2 (fun k e => by cases e)
    have ho388 := off_new (LkP.ofS hO389) hN380
    have hO391 := LkP.gr hQ.hB hg2 (fun k e => by cases e)
    have ho390 := off_new (LkP.ofS hO391) hN380
    try dsimp only at h375
    have hB392 := fbU_new hB7 hg378
    have hr393 := row_kept_new hr8 hg378
    refine dr_many [5] (by kernel_rfl) (by simp) ⟨?_, trivial⟩
    ·
     have hk394 := hk372.kept hg378 (by simp)
     refine dr_opVal (i := 5) (v := wv) h375 rfl rfl rfl rfl (by kernel_rfl) rfl (rn_load1 rfl rfl Try.isAgg67 (hk394.cell rfl)) ⟨hB392, hr393⟩ (fun a395 h395 => ?_); clear h375
     refine dk 7 (v := subV wv 0 i 8) h395 rfl rfl ⟨hB392, hr393⟩ (fun x hx => (rn_sliceTo rfl rfl rfl Try.underlying67 Try.sizeOf61 (row_sl hx.2 segE_len) (by omega) (by omega))) fun a396 h396 => ?_; clear h395
     have hr399 := row_of_blkL hk379 (Nat.le_refl _) 8 segE
     have hu400 : ∀ i, Value.ownBlock wv = some i → i < N377 := fun i hi => by have := (hW0.lt i hi).2; omega
     have hu401 : ∀ i, Value.ownBlock tv = some i → i < N377 := fun i hi => by have := (hT0.lt i hi).2; omega
     refine d1 8 h396 rfl rfl (op_appendSrc rfl N377 61 (z := .agg #[.int .i64 0, .int .i64 0, .int .i64 0, .int .i64 0, .int .i64 0, .int .i64 0, .bool false, .string (⟨#[]⟩)]) (size := 8) (bytes := 72) Try.underlying67 (by kernel_rfl) rfl rfl rfl hr399 rfl (sl_take (row_sl hr393 segE_len) _ (by omega)) (fun y hy => ⟨segE_len y, segE_one y⟩) (by first | omega | (simp only [List.length_nil, List.length_append, List.length_cons, List.length_take, List.length_drop]; omega)) (by first | omega | (simp only [List.length_nil, List.length_append, List.length_cons, List.length_take, List.length_drop]; omega)) (by omega)) ?_ ?_; clear h396
     ·
      rintro v402 w398 ⟨hr403, hg404⟩
      have hr403' : w398.ownsRow N377 61 8 v402 ((P.W.take i).length) ((P.W.take i).flatMap segE) := row_app (l := []) hr403; clear hr403
      have hz406 := hg404.size
      have hB407 := fbU_row hB392 (InS.low hr399 (by omega)) hg404
      have hr408 := row_kept_ap hr393 hr399 hu400 hg404
      exact ⟨hB407, hr408⟩
     rintro v402 w398 a397 ⟨hr403, hg404⟩ h397
     have hr403' : w398.ownsRow N377 61 8 v402 ((P.W.take i).length) ((P.W.take i).flatMap segE) := row_app (l := []) hr403; clear hr403
     have hz406 := hg404.size
     have hB407 := fbU_row hB392 (InS.low hr399 (by omega)) hg404
     have hr408 := row_kept_ap hr393 hr399 hu400 hg404
     refine d1 16 h397 rfl rfl (op_appendSrc rfl N377 61 (z := .agg #[.int .i64 0, .int .i64 0, .int .i64 0, .int .i64 0, .int .i64 0, .int .i64 0, .bool false, .string (⟨#[]⟩)]) (size := 8) (bytes := 72) Try.underlying67 (by kernel_rfl) rfl rfl rfl hr403' rfl (sl_drop (row_sl hr408 segE_len) _ (by omega)) (fun y hy => ⟨segE_len y, segE_one y⟩) (by first | omega | (simp only [List.length_nil, List.length_append, List.length_cons, List.length_take, List.length_drop]; omega)) (by first | omega | (simp only [List.length_nil, List.length_append, List.length_cons, List.length_take, List.length_drop]; omega)) (by omega)) ?_ ?_; clear h397
     ·
      rintro v411 w410 ⟨hr412, hg413⟩
      have hr412' : w410.ownsRow N377 61 8 v411 ((P.W.take i ++ (P.W.drop (i + 1))).length) ((P.W.take i ++ (P.W.drop (i + 1))).flatMap segE) := row_app hr412; clear hr412
      have hz415 := hg413.size
      have hk416 := hk394.kept hg404 (own_neT hr399 hk394 (by decide))
      have hB417 := fbU_row hB407 (InS.low hr403' (by omega)) hg413
      have hr418 := row_kept_ap hr408 hr403' hu400 hg413
      exact ⟨hB417, hr418⟩
     rintro v411 w410 a409 ⟨hr412, hg413⟩ h409
     have hr412' : w410.ownsRow N377 61 8 v411 ((P.W.take i ++ (P.W.drop (i + 1))).length) ((P.W.take i ++ (P.W.drop (i + 1))).flatMap segE) := row_app hr412; clear hr412
     have hz415 := hg413.size
     have hk416 := hk394.kept hg404 (own_neT hr399 hk394 (by decide))
     have hB417 := fbU_row hB407 (InS.low hr403' (by omega)) hg413
     have hr418 := row_kept_ap hr408 hr403' hu400 hg413
     refine dk0 17 (v := pt b 0) h409 rfl rfl ⟨hB417, hr418⟩ fun a419 h419 => ?_; clear h409
     refine dk0 18 (v := pt b 4) h419 rfl rfl ⟨hB417, hr418⟩ fun a420 h420 => ?_; clear h419
     have hk426 := hk416.kept hg413 (own_neT hr403' hk416 (by decide))
     refine d1D 19 h420 rfl rfl (op_store1 rfl rfl rfl (row_one hr412') Try.sizeOf67 hk426 rfl) ?_ ?_; clear h420
     ·
      rintro _ w422 ⟨hk423, hz424, hg425⟩
      have hk423' : Blk w422 b 95 #[pt NA 0, pt NB 0, .int .i64 P.b0, .int .i64 P.b1, v411, tv, .int .i64 P.s0, .int .i64 P.s1, .int .i64 P.t0, .int .i64 P.t1, .bool true] := hk423; clear hk423
      have hz427 := hg425.size
      have hB428 := fbU_at hB417 hg425 (fun hlt => by rcases hSb with hq | hq; exact hq; omega)
      have hr429 := row_kept_at hr418 hg425 (own_neT hr418 hk426 (by decide))
      exact ⟨hB428, hr429⟩
     rintro _ w422 a421 ⟨hk423, hz424, hg425⟩ h421
     have hk423' : Blk w422 b 95 #[pt NA 0, pt NB 0, .int .i64 P.b0, .int .i64 P.b1, v411, tv, .int .i64 P.s0, .int .i64 P.s1, .int .i64 P.t0, .int .i64 P.t1, .bool true] := hk423; clear hk423
     have hz427 := hg425.size
     refine dr_done (by kernel_rfl) ?_
     refine co_then ?_
     have hr428 := row_kept_at hr412' hg425 (own_neT hr412' hk426 (by decide))
     have hO429 := LkP.gr hO389 hg378 (fun k e => by cases e)
     have hO430 := LkP.gr hO429 hg404 (fun k e => (offR_row (LkP.ofS hQ.hA) hr399 (by omega)) k e)
     have hO431 := LkP.gr hO430 hg413 (fun k e => (offR_row (LkP.ofS hQ.hA) hr403' (by omega)) k e)
     have hO432 := LkP.gr hO431 hg425 (fun k e => by cases e; exact hQ.nA)
     have hO433 := LkP.gr hO391 hg378 (fun k e => by cases e)
     have hO434 := LkP.gr hO433 hg404 (fun k e => (offR_row (LkP.ofS hQ.hB) hr399 (by omega)) k e)
     have hO435 := LkP.gr hO434 hg413 (fun k e => (offR_row (LkP.ofS hQ.hB) hr403' (by omega)) k e)
     have hO436 := LkP.gr hO435 hg425 (fun k e => by cases e; exact hQ.nB)
     have hr437 := row_kept_new hr385 hg378
     have hr438 := row_kept_ap hr437 hr399 hu401 hg404
     have hr439 := row_kept_ap hr438 hr403' hu401 hg413
     have hr440 := row_kept_at hr439 hg425 (own_neT hr439 hk426 (by decide))
     have hB441 := fbU_at hB417 hg425 (fun hlt => by rcases hSb with hq | hq; exact hq; omega)
     exact ⟨v411, h421.sub ⟨rfl, rfl, trivial⟩, by exact (offR_row (LkP.ofS hQ.hA) hr428 (by omega)), by exact (offR_row (LkP.ofS hQ.hB) hr428 (by omega)), hk423', hO432, hO436, (row_eq (row_lows hr428 (by omega)) (rfl)), hr440, hB441⟩
   ·
    refine dr_opVal (i := 5) (v := wv) h374 rfl rfl rfl rfl (by kernel_rfl) rfl (rn_load1 rfl rfl Try.isAgg67 (hk372.cell rfl)) ⟨hB7, hr8⟩ (fun a442 h442 => ?_); clear h374
    refine dk 7 (v := subV wv 0 i 8) h442 rfl rfl ⟨hB7, hr8⟩ (fun x hx => (rn_sliceTo rfl rfl rfl Try.underlying67 Try.sizeOf61 (row_sl hx.2 segE_len) (by omega) (by omega))) fun a443 h443 => ?_; clear h442
    refine d1 1 h443 rfl rfl (op_new (v := fun N => .slice (some ⟨N, 0, none⟩) 0 0) (T := 61) (cs := #[]) (by kernel_rfl) (by kernel_rfl) (by kernel_rfl)) ?_ ?_; clear h443
    ·
     rintro _ w445 ⟨N446, rfl, hN449, hz450, hk448, hg447⟩
     have ha451 := row_fresh hr8 hN449
     have hu452 := row_under hr8 hN449
     have hr454 := row_kept_new hT0 hg2
     have ha453 := row_fresh hr454 hN449
     have hu455 := row_under hr454 hN449
     have hz456 := hg447.size
     have hO458 := LkP.gr hQ.hA hg2 (fun k e => by cases e)
     have ho457 := off_new (LkP.ofS hO458) hN449
     have hO460 := LkP.gr hQ.hB hg2 (fun k e => by cases e)
     have ho459 := off_new (LkP.ofS hO460) hN449
     have hB461 := fbU_new hB7 hg447
     have hr462 := row_kept_new hr8 hg447
     exact ⟨hB461, hr462⟩
    rintro _ w445 a444 ⟨N446, rfl, hN449, hz450, hk448, hg447⟩ h444
    have ha451 := row_fresh hr8 hN449
    have hu452 := row_under hr8 hN449
    have hr454 := row_kept_new hT0 hg2
    have ha453 := row_fresh hr454 hN449
    have hu455 := row_under hr454 hN449
    have hz456 := hg447.size
    have hO458 := LkP.gr hQ.hA hg2 (fun k e => by cases e)
    have ho457 := off_new (LkP.ofS hO458) hN449
    have hO460 := LkP.gr hQ.hB hg2 (fun k e => by cases e)
    have ho459 := off_new (LkP.ofS hO460) hN449
    try dsimp only at h444
    have hB461 := fbU_new hB7 hg447
    have hr462 := row_kept_new hr8 hg447
    have hr465 := row_of_blkL hk448 (Nat.le_refl _) 8 segE
    have hu466 : ∀ i, Value.ownBlock wv = some i → i < N446 := fun i hi => by have := (hW0.lt i hi).2; omega
    have hu467 : ∀ i, Value.ownBlock tv = some i → i < N446 := fun i hi => by have := (hT0.lt i hi).2; omega
    refine d1 8 h444 rfl rfl (op_appendSrc rfl N446 61 (z := .agg #[.int .i64 0, .int .i64 0, .int .i64 0, .int .i64 0, .int .i64 0, .int .i64 0, .bool false, .string (⟨#[]⟩)]) (size := 8) (bytes := 72) Try.underlying67 (by kernel_rfl) rfl rfl rfl hr465 rfl (sl_take (row_sl hr462 segE_len) _ (by omega)) (fun y hy => ⟨segE_len y, segE_one y⟩) (by first | omega | (simp only [List.length_nil, List.length_append, List.length_cons, List.length_take, List.length_drop]; omega)) (by first | omega | (simp only [List.length_nil, List.length_append, List.length_cons, List.length_take, List.length_drop]; omega)) (by omega)) ?_ ?_; clear h444
    ·
     rintro v468 w464 ⟨hr469, hg470⟩
     have hr469' : w464.ownsRow N446 61 8 v468 ((P.W.take i).length) ((P.W.take i).flatMap segE) := row_app (l := []) hr469; clear hr469
     have hz472 := hg470.size
     have hk473 := hk372.kept hg447 (by simp)
     have hB474 := fbU_row hB461 (InS.low hr465 (by omega)) hg470
     have hr475 := row_kept_ap hr462 hr465 hu466 hg470
     exact ⟨hB474, hr475⟩
    rintro v468 w464 a463 ⟨hr469, hg470⟩ h463
    have hr469' : w464.ownsRow N446 61 8 v468 ((P.W.take i).length) ((P.W.take i).flatMap segE) := row_app (l := []) hr469; clear hr469
    have hz472 := hg470.size
    have hk473 := hk372.kept hg447 (by simp)
    have hB474 := fbU_row hB461 (InS.low hr465 (by omega)) hg470
    have hr475 := row_kept_ap hr462 hr465 hu466 hg470
    refine d1 16 h463 rfl rfl (op_appendSrc rfl N446 61 (z := .agg #[.int .i64 0, .int .i64 0, .int .i64 0, .int .i64 0, .int .i64 0, .int .i64 0, .bool false, .string (⟨#[]⟩)]) (size := 8) (bytes := 72) Try.underlying67 (by kernel_rfl) rfl rfl rfl hr469' rfl (sl_drop (row_sl hr475 segE_len) _ (by omega)) (fun y hy => ⟨segE_len y, segE_one y⟩) (by first | omega | (simp only [List.length_nil, List.length_append, List.length_cons, List.length_take, List.length_drop]; omega)) (by first | omega | (simp only [List.length_nil, List.length_append, List.length_cons, List.length_take, List.length_drop]; omega)) (by omega)) ?_ ?_; clear h463
    ·
     rintro v478 w477 ⟨hr479, hg480⟩
     have hr479' : w477.ownsRow N446 61 8 v478 ((P.W.take i ++ (P.W.drop (i + 1))).length) ((P.W.take i ++ (P.W.drop (i + 1))).flatMap segE) := row_app hr479; clear hr479
     have hz482 := hg480.size
     have hk483 := hk473.kept hg470 (own_neT hr465 hk473 (by decide))
     have hB484 := fbU_row hB474 (InS.low hr469' (by omega)) hg480
     have hr485 := row_kept_ap hr475 hr469' hu466 hg480
     exact ⟨hB484, hr485⟩
    rintro v478 w477 a476 ⟨hr479, hg480⟩ h476
    have hr479' : w477.ownsRow N446 61 8 v478 ((P.W.take i ++ (P.W.drop (i + 1))).length) ((P.W.take i ++ (P.W.drop (i + 1))).flatMap segE) := row_app hr479; clear hr479
    have hz482 := hg480.size
    have hk483 := hk473.kept hg470 (own_neT hr465 hk473 (by decide))
    have hB484 := fbU_row hB474 (InS.low hr469' (by omega)) hg480
    have hr485 := row_kept_ap hr475 hr469' hu466 hg480
    refine dk0 17 (v := pt b 0) h476 rfl rfl ⟨hB484, hr485⟩ fun a486 h486 => ?_; clear h476
    refine dk0 18 (v := pt b 4) h486 rfl rfl ⟨hB484, hr485⟩ fun a487 h487 => ?_; clear h486
    have hk493 := hk483.kept hg480 (own_neT hr469' hk483 (by decide))
    refine d1D 19 h487 rfl rfl (op_store1 rfl rfl rfl (row_one hr479') Try.sizeOf67 hk493 rfl) ?_ ?_; clear h487
    ·
     rintro _ w489 ⟨hk490, hz491, hg492⟩
     have hk490' : Blk w489 b 95 #[pt NA 0, pt NB 0, .int .i64 P.b0, .int .i64 P.b1, v478, tv, .int .i64 P.s0, .int .i64 P.s1, .int .i64 P.t0, .int .i64 P.t1, .bool true] := hk490; clear hk490
     have hz494 := hg492.size
     have hB495 := fbU_at hB484 hg492 (fun hlt => by rcases hSb with hq | hq; exact hq; omega)
     have hr496 := row_kept_at hr485 hg492 (own_neT hr485 hk493 (by decide))
     exact ⟨hB495, hr496⟩
    rintro _ w489 a488 ⟨hk490, hz491, hg492⟩ h488
    have hk490' : Blk w489 b 95 #[pt NA 0, pt NB 0, .int .i64 P.b0, .int .i64 P.b1, v478, tv, .int .i64 P.s0, .int .i64 P.s1, .int .i64 P.t0, .int .i64 P.t1, .bool true] := hk490; clear hk490
    have hz494 := hg492.size
    refine dr_done (by kernel_rfl) ?_
    refine co_then ?_
    have hr495 := row_kept_at hr479' hg492 (own_neT hr479' hk493 (by decide))
    have hO496 := LkP.gr hO458 hg447 (fun k e => by cases e)
    have hO497 := LkP.gr hO496 hg470 (fun k e => (offR_row (LkP.ofS hQ.hA) hr465 (by omega)) k e)
    have hO498 := LkP.gr hO497 hg480 (fun k e => (offR_row (LkP.ofS hQ.hA) hr469' (by omega)) k e)
    have hO499 := LkP.gr hO498 hg492 (fun k e => by cases e; exact hQ.nA)
    have hO500 := LkP.gr hO460 hg447 (fun k e => by cases e)
    have hO501 := LkP.gr hO500 hg470 (fun k e => (offR_row (LkP.ofS hQ.hB) hr465 (by omega)) k e)
    have hO502 := LkP.gr hO501 hg480 (fun k e => (offR_row (LkP.ofS hQ.hB) hr469' (by omega)) k e)
    have hO503 := LkP.gr hO502 hg492 (fun k e => by cases e; exact hQ.nB)
    have hr504 := row_kept_new hr454 hg447
    have hr505 := row_kept_ap hr504 hr465 hu467 hg470
    have hr506 := row_kept_ap hr505 hr469' hu467 hg480
    have hr507 := row_kept_at hr506 hg492 (own_neT hr506 hk493 (by decide))
    have hB508 := fbU_at hB484 hg492 (fun hlt => by rcases hSb with hq | hq; exact hq; omega)
    exact ⟨v478, h488.sub ⟨rfl, rfl, trivial⟩, by exact (offR_row (LkP.ofS hQ.hA) hr495 (by omega)), by exact (offR_row (LkP.ofS hQ.hB) hr495 (by omega)), hk490', hO499, hO503, (row_eq (row_lows hr495 (by omega)) (rfl)), hr507, hB508⟩
 rintro a509 w510 ⟨wk, h509, hi511, hi512, hf513, hf514, hf515, hf516, hf517, hB518⟩
 have hz519 := hB518.size
 have hl520 := hf513.lt
 refine dr_gen (fun x => But (S) w x ∧ x.ownsRow 0 3 1 tv P.T.length (P.T.flatMap (intE .i64))) (by kernel_rfl) (fun w521 hg522 => ?_) (fun w521 hg522 => ?_)
 ·
  have hz523 := hg522.size
  have hB524 := fbU_new hB518 hg522
  have hr525 := row_kept_new hf517 hg522
  exact ⟨hB524, hr525⟩
 have hz526 := hg522.size
 have hB527 := fbU_new hB518 hg522
 have hr528 := row_kept_new hf517 hg522
 refine dk0 0 (v := pt b 0) h509 rfl rfl ⟨hB527, hr528⟩ fun a529 h529 => ?_; clear h509
 refine dk0 2 (v := pt b 0) h529 rfl rfl ⟨hB527, hr528⟩ fun a530 h530 => ?_; clear h529
 refine dk0 3 (v := pt b 0) h530 rfl rfl ⟨hB527, hr528⟩ fun a531 h531 => ?_; clear h530
 refine dk0 4 (v := pt b 5) h531 rfl rfl ⟨hB527, hr528⟩ fun a532 h532 => ?_; clear h531
 refine dk0 6 (v := .int .i64 ((i : Nat) : Int)) h532 rfl rfl ⟨hB527, hr528⟩ fun a533 h533 => ?_; clear h532
 refine dk0 9 (v := pt b 0) h533 rfl rfl ⟨hB527, hr528⟩ fun a534 h534 => ?_; clear h533
 refine dk0 10 (v := pt b 0) h534 rfl rfl ⟨hB527, hr528⟩ fun a535 h535 => ?_; clear h534
 refine dk0 11 (v := pt b 5) h535 rfl rfl ⟨hB527, hr528⟩ fun a536 h536 => ?_; clear h535
 refine dk0 13 (v := .int .i64 ((i : Nat) : Int)) h536 rfl rfl ⟨hB527, hr528⟩ fun a537 h537 => ?_; clear h536
 refine dk 14 (v := .int .i64 ((i + 1 : Nat) : Int)) h537 rfl rfl ⟨hB527, hr528⟩ (fun x hx => (rn_arith' rfl rfl rfl rfl rfl rfl (IntWalk.i64_in _ (by omega)) (by omega))) fun a538 h538 => ?_; clear h537
 refine dr_many [1, 5, 12] (by kernel_rfl) (by simp) ⟨?_, ?_, ?_, trivial⟩
 ·
  refine dr_op (i := 1) h538 rfl rfl rfl rfl (op_new (v := fun N => .slice (some ⟨N, 0, none⟩) 0 0) (T := 3) (cs := #[]) (by kernel_rfl) (by kernel_rfl) (by kernel_rfl)) ?_ ?_; clear h538
  ·
   rintro _ w540 ⟨N541, rfl, hN544, hz545, hk543, hg542⟩
   have hr547 := row_kept_new hf516 hg522
   have ha546 := row_fresh hr547 hN544
   have hu548 := row_under hr547 hN544
   have ha549 := row_fresh hr528 hN544
   have hu550 := row_under hr528 hN544
   have hz551 := hg542.size
   have hO553 := LkP.gr hf514 hg522 (fun k e => by cases e)
   have ho552 := off_new (LkP.ofS hO553) hN544
   have hO555 := LkP.gr hf515 hg522 (fun k e => by cases e)
   have ho554 := off_new (LkP.ofS hO555) hN544
   have hB556 := fbU_new hB527 hg542
   have hr557 := row_kept_new hr528 hg542
   exact ⟨hB556, hr557⟩
  rintro _ w540 a539 ⟨N541, rfl, hN544, hz545, hk543, hg542⟩ h539
  have hr547 := row_kept_new hf516 hg522
  have ha546 := row_fresh hr547 hN544
  have hu548 := row_under hr547 hN544
  have ha549 := row_fresh hr528 hN544
  have hu550 := row_under hr528 hN544
  have hz551 := hg542.size
  have hO553 := LkP.gr hf514 hg522 (fun k e => by cases e)
  have ho552 := off_new (LkP.ofS hO553) hN544
  have hO555 := LkP.gr hf515 hg522 (fun k e => by cases e)
  have ho554 := off_new (LkP.ofS hO555) hN544
  try dsimp only at h539
  have hB556 := fbU_new hB527 hg542
  have hr557 := row_kept_new hr528 hg542
  refine dr_many [5, 12] (by kernel_rfl) (by simp) ⟨?_, ?_, trivial⟩
  ·
   have hk558 := hf513.kept hg522 (by simp)
   have hk559 := hk558.kept hg542 (by simp)
   refine dr_opVal (i := 5) (v := tv) h539 rfl rfl rfl rfl (by kernel_rfl) rfl (rn_load1 rfl rfl Try.isAgg93 (hk559.cell rfl)) ⟨hB556, hr557⟩ (fun a560 h560 => ?_); clear h539
   refine dk 7 (v := subV tv 0 i 1) h560 rfl rfl ⟨hB556, hr557⟩ (fun x hx => (rn_sliceTo rfl rfl rfl Try.underlying93 Try.sizeOf3 (row_sl hx.2 intE_lenL) (by omega) (by omega))) fun a561 h561 => ?_; clear h560
   refine dr_many [8, 12] (by kernel_rfl) (by simp) ⟨?_, ?_, trivial⟩
   ·
    have hr564 := row_of_blkL hk543 (Nat.le_refl _) 1 (intE .i64)
    have hu565 : ∀ i, Value.ownBlock wv = some i → i < N541 := fun i hi => by have := (hW0.lt i hi).2; omega
    have hu566 : ∀ i, Value.ownBlock tv = some i → i < N541 := fun i hi => by have := (hT0.lt i hi).2; omega
    refine dr_op (i := 8) h561 rfl rfl rfl rfl (op_appendSrc rfl N541 3 (z := .int .i64 0) (size := 1) (bytes := 8) Try.underlying93 (by kernel_rfl) rfl rfl rfl hr564 rfl (sl_take (row_sl hr557 intE_lenL) _ (by omega)) (fun y hy => ⟨intE_lenL y, intE_oneL y⟩) (by first | omega | (simp only [List.length_nil, List.length_append, List.length_cons, List.length_take, List.length_drop]; omega)) (by first | omega | (simp only [List.length_nil, List.length_append, List.length_cons, List.length_take, List.length_drop]; omega)) (by omega)) ?_ ?_; clear h561
    ·
     rintro v567 w563 ⟨hr568, hg569⟩
     have hr568' : w563.ownsRow N541 3 1 v567 ((P.T.take i).length) ((P.T.take i).flatMap (intE .i64)) := row_app (l := []) hr568; clear hr568
     have hz571 := hg569.size
     have hB572 := fbU_row hB556 (InS.low hr564 (by omega)) hg569
     have hr573 := row_kept_ap hr557 hr564 hu566 hg569
     exact ⟨hB572, hr573⟩
    rintro v567 w563 a562 ⟨hr568, hg569⟩ h562
    have hr568' : w563.ownsRow N541 3 1 v567 ((P.T.take i).length) ((P.T.take i).flatMap (intE .i64)) := row_app (l := []) hr568; clear hr568
    have hz571 := hg569.size
    have hB572 := fbU_row hB556 (InS.low hr564 (by omega)) hg569
    have hr573 := row_kept_ap hr557 hr564 hu566 hg569
    refine dr_many [12] (by kernel_rfl) (by simp) ⟨?_, trivial⟩
    ·
     have hk574 := hk559.kept hg569 (own_neT hr564 hk559 (by decide))
     refine dr_opVal (i := 12) (v := tv) h562 rfl rfl rfl rfl (by kernel_rfl) rfl (rn_load1 rfl rfl Try.isAgg93 (hk574.cell rfl)) ⟨hB572, hr573⟩ (fun a575 h575 => ?_); clear h562
     refine dk 15 (v := subV tv (i + 1) P.T.length 1) h575 rfl rfl ⟨hB572, hr573⟩ (fun x hx => (rn_sliceFrom rfl rfl rfl Try.underlying93 Try.sizeOf3 (row_sl hx.2 intE_lenL) (by omega) (by omega))) fun a576 h576 => ?_; clear h575
     refine d1 16 h576 rfl rfl (op_appendSrc rfl N541 3 (z := .int .i64 0) (size := 1) (bytes := 8) Try.underlying93 (by kernel_rfl) rfl rfl rfl hr568' rfl (sl_drop (row_sl hr573 intE_lenL) _ (by omega)) (fun y hy => ⟨intE_lenL y, intE_oneL y⟩) (by first | omega | (simp only [List.length_nil, List.length_append, List.length_cons, List.length_take, List.length_drop]; omega)) (by first | omega | (simp only [List.length_nil, List.length_append, List.length_cons, List.length_take, List.length_drop]; omega)) (by omega)) ?_ ?_; clear h576
     ·
      rintro v579 w578 ⟨hr580, hg581⟩
      have hr580' : w578.ownsRow N541 3 1 v579 ((P.T.take i ++ (P.T.drop (i + 1))).length) ((P.T.take i ++ (P.T.drop (i + 1))).flatMap (intE .i64)) := row_app hr580; clear hr580
      have hz583 := hg581.size
      have hB584 := fbU_row hB572 (InS.low hr568' (by omega)) hg581
      have hr585 := row_kept_ap hr573 hr568' hu566 hg581
      exact ⟨hB584, hr585⟩
     rintro v579 w578 a577 ⟨hr580, hg581⟩ h577
     have hr580' : w578.ownsRow N541 3 1 v579 ((P.T.take i ++ (P.T.drop (i + 1))).length) ((P.T.take i ++ (P.T.drop (i + 1))).flatMap (intE .i64)) := row_app hr580; clear hr580
     have hz583 := hg581.size
     have hB584 := fbU_row hB572 (InS.low hr568' (by omega)) hg581
     have hr585 := row_kept_ap hr573 hr568' hu566 hg581
     refine dk0 17 (v := pt b 0) h577 rfl rfl ⟨hB584, hr585⟩ fun a586 h586 => ?_; clear h577
     refine dk0 18 (v := pt b 5) h586 rfl rfl ⟨hB584, hr585⟩ fun a587 h587 => ?_; clear h586
     have hk593 := hk574.kept hg581 (own_neT hr568' hk574 (by decide))
     refine d1D 19 h587 rfl rfl (op_store1 rfl rfl rfl (row_one hr580') Try.sizeOf93 hk593 rfl) ?_ ?_; clear h587
     ·
      rintro _ w589 ⟨hk590, hz591, hg592⟩
      have hk590' : Blk w589 b 95 #[pt NA 0, pt NB 0, .int .i64 P.b0, .int .i64 P.b1, wk, v579, .int .i64 P.s0, .int .i64 P.s1, .int .i64 P.t0, .int .i64 P.t1, .bool true] := hk590; clear hk590
      have hz594 := hg592.size
      have hB595 := fbU_at hB584 hg592 (fun hlt => by rcases hSb with hq | hq; exact hq; omega)
      have hr596 := row_kept_at hr585 hg592 (own_neT hr585 hk593 (by decide))
      exact ⟨hB595, hr596⟩
     rintro _ w589 a588 ⟨hk590, hz591, hg592⟩ h588
     have hk590' : Blk w589 b 95 #[pt NA 0, pt NB 0, .int .i64 P.b0, .int .i64 P.b1, wk, v579, .int .i64 P.s0, .int .i64 P.s1, .int .i64 P.t0, .int .i64 P.t1, .bool true] := hk590; clear hk590
     have hz594 := hg592.size
     refine dr_done (by kernel_rfl) ?_
     refine co_ret0n h588 rfl ?_
     have hO595 := LkP.gr hO553 hg542 (fun k e => by cases e)
     have hO596 := LkP.gr hO595 hg569 (fun k e => (offR_row (LkP.ofS hQ.hA) hr564 (by omega)) k e)
     have hO597 := LkP.gr hO596 hg581 (fun k e => (offR_row (LkP.ofS hQ.hA) hr568' (by omega)) k e)
     have hO598 := LkP.gr hO597 hg592 (fun k e => by cases e; exact hQ.nA)
     have hO599 := LkP.gr hO555 hg542 (fun k e => by cases e)
     have hO600 := LkP.gr hO599 hg569 (fun k e => (offR_row (LkP.ofS hQ.hB) hr564 (by omega)) k e)
     have hO601 := LkP.gr hO600 hg581 (fun k e => (offR_row (LkP.ofS hQ.hB) hr568' (by omega)) k e)
     have hO602 := LkP.gr hO601 hg592 (fun k e => by cases e; exact hQ.nB)
     have hr603 := row_kept_new hr547 hg542
     have hr604 := row_kept_ap hr603 hr564 hu548 hg569
     have hr605 := row_kept_ap hr604 hr568' hu548 hg581
     have hr606 := row_kept_at hr605 hg592 (own_neT hr605 hk593 (by decide))
     have hr607 := row_kept_at hr580' hg592 (own_neT hr580' hk593 (by decide))
     have hB608 := fbU_at hB584 hg592 (fun hlt => by rcases hSb with hq | hq; exact hq; omega)
     obtain ⟨S9, h1, h2⟩ := PrO.fin (P := goneP P i) (NA := NA) (NB := NB) (wv := wk) (tv := v579) (w := w) hk590' hO598 hO602 hr606 hr607 hQ.ap hQ.nA hQ.nB hi511 hi512 (offR_row (LkP.ofS hQ.hA) hr607 (by omega)) (offR_row (LkP.ofS hQ.hB) hr607 (by omega)) hSb hinA hinB (InS.low hr606 (by omega)) (InS.low hr607 (by omega)) hB608
     exact ⟨S9, rfl, h1, h2, hB608⟩
   ·
    refine dr_opVal (i := 12) (v := tv) h561 rfl rfl rfl rfl (by kernel_rfl) rfl (rn_load1 rfl rfl Try.isAgg93 (hk559.cell rfl)) ⟨hB556, hr557⟩ (fun a609 h609 => ?_); clear h561
    refine dk 15 (v := subV tv (i + 1) P.T.length 1) h609 rfl rfl ⟨hB556, hr557⟩ (fun x hx => (rn_sliceFrom rfl rfl rfl Try.underlying93 Try.sizeOf3 (row_sl hx.2 intE_lenL) (by omega) (by omega))) fun a610 h610 => ?_; clear h609
    have hr613 := row_of_blkL hk543 (Nat.le_refl _) 1 (intE .i64)
    have hu614 : ∀ i, Value.ownBlock wv = some i → i < N541 := fun i hi => by have := (hW0.lt i hi).2; omega
    have hu615 : ∀ i, Value.ownBlock tv = some i → i < N541 := fun i hi => by have := (hT0.lt i hi).2; omega
    refine d1 8 h610 rfl rfl (op_appendSrc rfl N541 3 (z := .int .i64 0) (size := 1) (bytes := 8) Try.underlying93 (by kernel_rfl) rfl rfl rfl hr613 rfl (sl_take (row_sl hr557 intE_lenL) _ (by omega)) (fun y hy => ⟨intE_lenL y, intE_oneL y⟩) (by first | omega | (simp only [List.length_nil, List.length_append, List.length_cons, List.length_take, List.length_drop]; omega)) (by first | omega | (simp only [List.length_nil, List.length_append, List.length_cons, List.length_take, List.length_drop]; omega)) (by omega)) ?_ ?_; clear h610
    ·
     rintro v616 w612 ⟨hr617, hg618⟩
     have hr617' : w612.ownsRow N541 3 1 v616 ((P.T.take i).length) ((P.T.take i).flatMap (intE .i64)) := row_app (l := []) hr617; clear hr617
     have hz620 := hg618.size
     have hB621 := fbU_row hB556 (InS.low hr613 (by omega)) hg618
     have hr622 := row_kept_ap hr557 hr613 hu615 hg618
     exact ⟨hB621, hr622⟩
    rintro v616 w612 a611 ⟨hr617, hg618⟩ h611
    have hr617' : w612.ownsRow N541 3 1 v616 ((P.T.take i).length) ((P.T.take i).flatMap (intE .i64)) := row_app (l := []) hr617; clear hr617
    have hz620 := hg618.size
    have hB621 := fbU_row hB556 (InS.low hr613 (by omega)) hg618
    have hr622 := row_kept_ap hr557 hr613 hu615 hg618
    refine d1 16 h611 rfl rfl (op_appendSrc rfl N541 3 (z := .int .i64 0) (size := 1) (bytes := 8) Try.underlying93 (by kernel_rfl) rfl rfl rfl hr617' rfl (sl_drop (row_sl hr622 intE_lenL) _ (by omega)) (fun y hy => ⟨intE_lenL y, intE_oneL y⟩) (by first | omega | (simp only [List.length_nil, List.length_append, List.length_cons, List.length_take, List.length_drop]; omega)) (by first | omega | (simp only [List.length_nil, List.length_append, List.length_cons, List.length_take, List.length_drop]; omega)) (by omega)) ?_ ?_; clear h611
    ·
     rintro v625 w624 ⟨hr626, hg627⟩
     have hr626' : w624.ownsRow N541 3 1 v625 ((P.T.take i ++ (P.T.drop (i + 1))).length) ((P.T.take i ++ (P.T.drop (i + 1))).flatMap (intE .i64)) := row_app hr626; clear hr626
     have hz629 := hg627.size
     have hk630 := hk559.kept hg618 (own_neT hr613 hk559 (by decide))
     have hB631 := fbU_row hB621 (InS.low hr617' (by omega)) hg627
     have hr632 := row_kept_ap hr622 hr617' hu615 hg627
     exact ⟨hB631, hr632⟩
    rintro v625 w624 a623 ⟨hr626, hg627⟩ h623
    have hr626' : w624.ownsRow N541 3 1 v625 ((P.T.take i ++ (P.T.drop (i + 1))).length) ((P.T.take i ++ (P.T.drop (i + 1))).flatMap (intE .i64)) := row_app hr626; clear hr626
    have hz629 := hg627.size
    have hk630 := hk559.kept hg618 (own_neT hr613 hk559 (by decide))
    have hB631 := fbU_row hB621 (InS.low hr617' (by omega)) hg627
    have hr632 := row_kept_ap hr622 hr617' hu615 hg627
    refine dk0 17 (v := pt b 0) h623 rfl rfl ⟨hB631, hr632⟩ fun a633 h633 => ?_; clear h623
    refine dk0 18 (v := pt b 5) h633 rfl rfl ⟨hB631, hr632⟩ fun a634 h634 => ?_; clear h633
    have hk640 := hk630.kept hg627 (own_neT hr617' hk630 (by decide))
    refine d1D 19 h634 rfl rfl (op_store1 rfl rfl rfl (row_one hr626') Try.sizeOf93 hk640 rfl) ?_ ?_; clear h634
    ·
     rintro _ w636 ⟨hk637, hz638, hg639⟩
     have hk637' : Blk w636 b 95 #[pt NA 0, pt NB 0, .int .i64 P.b0, .int .i64 P.b1, wk, v625, .int .i64 P.s0, .int .i64 P.s1, .int .i64 P.t0, .int .i64 P.t1, .bool true] := hk637; clear hk637
     have hz641 := hg639.size
     have hB642 := fbU_at hB631 hg639 (fun hlt => by rcases hSb with hq | hq; exact hq; omega)
     have hr643 := row_kept_at hr632 hg639 (own_neT hr632 hk640 (by decide))
     exact ⟨hB642, hr643⟩
    rintro _ w636 a635 ⟨hk637, hz638, hg639⟩ h635
    have hk637' : Blk w636 b 95 #[pt NA 0, pt NB 0, .int .i64 P.b0, .int .i64 P.b1, wk, v625, .int .i64 P.s0, .int .i64 P.s1, .int .i64 P.t0, .int .i64 P.t1, .bool true] := hk637; clear hk637
    have hz641 := hg639.size
    refine dr_done (by kernel_rfl) ?_
    refine co_ret0n h635 rfl ?_
    have hO642 := LkP.gr hO553 hg542 (fun k e => by cases e)
    have hO643 := LkP.gr hO642 hg618 (fun k e => (offR_row (LkP.ofS hQ.hA) hr613 (by omega)) k e)
    have hO644 := LkP.gr hO643 hg627 (fun k e => (offR_row (LkP.ofS hQ.hA) hr617' (by omega)) k e)
    have hO645 := LkP.gr hO644 hg639 (fun k e => by cases e; exact hQ.nA)
    have hO646 := LkP.gr hO555 hg542 (fun k e => by cases e)
    have hO647 := LkP.gr hO646 hg618 (fun k e => (offR_row (LkP.ofS hQ.hB) hr613 (by omega)) k e)
    have hO648 := LkP.gr hO647 hg627 (fun k e => (offR_row (LkP.ofS hQ.hB) hr617' (by omega)) k e)
    have hO649 := LkP.gr hO648 hg639 (fun k e => by cases e; exact hQ.nB)
    have hr650 := row_kept_new hr547 hg542
    have hr651 := row_kept_ap hr650 hr613 hu548 hg618
    have hr652 := row_kept_ap hr651 hr617' hu548 hg627
    have hr653 := row_kept_at hr652 hg639 (own_neT hr652 hk640 (by decide))
    have hr654 := row_kept_at hr626' hg639 (own_neT hr626' hk640 (by decide))
    have hB655 := fbU_at hB631 hg639 (fun hlt => by rcases hSb with hq | hq; exact hq; omega)
    obtain ⟨S9, h1, h2⟩ := PrO.fin (P := goneP P i) (NA := NA) (NB := NB) (wv := wk) (tv := v625) (w := w) hk637' hO645 hO649 hr653 hr654 hQ.ap hQ.nA hQ.nB hi511 hi512 (offR_row (LkP.ofS hQ.hA) hr654 (by omega)) (offR_row (LkP.ofS hQ.hB) hr654 (by omega)) hSb hinA hinB (InS.low hr653 (by omega)) (InS.low hr654 (by omega)) hB655
    exact ⟨S9, rfl, h1, h2, hB655⟩
  ·
   have hk656 := hf513.kept hg522 (by simp)
   have hk657 := hk656.kept hg542 (by simp)
   refine dr_opVal (i := 12) (v := tv) h539 rfl rfl rfl rfl (by kernel_rfl) rfl (rn_load1 rfl rfl Try.isAgg93 (hk657.cell rfl)) ⟨hB556, hr557⟩ (fun a658 h658 => ?_); clear h539
   refine dk 15 (v := subV tv (i + 1) P.T.length 1) h658 rfl rfl ⟨hB556, hr557⟩ (fun x hx => (rn_sliceFrom rfl rfl rfl Try.underlying93 Try.sizeOf3 (row_sl hx.2 intE_lenL) (by omega) (by omega))) fun a659 h659 => ?_; clear h658
   refine dr_many [5] (by kernel_rfl) (by simp) ⟨?_, trivial⟩
   ·
    refine dr_opVal (i := 5) (v := tv) h659 rfl rfl rfl rfl (by kernel_rfl) rfl (rn_load1 rfl rfl Try.isAgg93 (hk657.cell rfl)) ⟨hB556, hr557⟩ (fun a660 h660 => ?_); clear h659
    refine dk 7 (v := subV tv 0 i 1) h660 rfl rfl ⟨hB556, hr557⟩ (fun x hx => (rn_sliceTo rfl rfl rfl Try.underlying93 Try.sizeOf3 (row_sl hx.2 intE_lenL) (by omega) (by omega))) fun a661 h661 => ?_; clear h660
    have hr664 := row_of_blkL hk543 (Nat.le_refl _) 1 (intE .i64)
    have hu665 : ∀ i, Value.ownBlock wv = some i → i < N541 := fun i hi => by have := (hW0.lt i hi).2; omega
    have hu666 : ∀ i, Value.ownBlock tv = some i → i < N541 := fun i hi => by have := (hT0.lt i hi).2; omega
    refine d1 8 h661 rfl rfl (op_appendSrc rfl N541 3 (z := .int .i64 0) (size := 1) (bytes := 8) Try.underlying93 (by kernel_rfl) rfl rfl rfl hr664 rfl (sl_take (row_sl hr557 intE_lenL) _ (by omega)) (fun y hy => ⟨intE_lenL y, intE_oneL y⟩) (by first | omega | (simp only [List.length_nil, List.length_append, List.length_cons, List.length_take, List.length_drop]; omega)) (by first | omega | (simp only [List.length_nil, List.length_append, List.length_cons, List.length_take, List.length_drop]; omega)) (by omega)) ?_ ?_; clear h661
    ·
     rintro v667 w663 ⟨hr668, hg669⟩
     have hr668' : w663.ownsRow N541 3 1 v667 ((P.T.take i).length) ((P.T.take i).flatMap (intE .i64)) := row_app (l := []) hr668; clear hr668
     have hz671 := hg669.size
     have hB672 := fbU_row hB556 (InS.low hr664 (by omega)) hg669
     have hr673 := row_kept_ap hr557 hr664 hu666 hg669
     exact ⟨hB672, hr673⟩
    rintro v667 w663 a662 ⟨hr668, hg669⟩ h662
    have hr668' : w663.ownsRow N541 3 1 v667 ((P.T.take i).length) ((P.T.take i).flatMap (intE .i64)) := row_app (l := []) hr668; clear hr668
    have hz671 := hg669.size
    have hB672 := fbU_row hB556 (InS.low hr664 (by omega)) hg669
    have hr673 := row_kept_ap hr557 hr664 hu666 hg669
    refine d1 16 h662 rfl rfl (op_appendSrc rfl N541 3 (z := .int .i64 0) (size := 1) (bytes := 8) Try.underlying93 (by kernel_rfl) rfl rfl rfl hr668' rfl (sl_drop (row_sl hr673 intE_lenL) _ (by omega)) (fun y hy => ⟨intE_lenL y, intE_oneL y⟩) (by first | omega | (simp only [List.length_nil, List.length_append, List.length_cons, List.length_take, List.length_drop]; omega)) (by first | omega | (simp only [List.length_nil, List.length_append, List.length_cons, List.length_take, List.length_drop]; omega)) (by omega)) ?_ ?_; clear h662
    ·
     rintro v676 w675 ⟨hr677, hg678⟩
     have hr677' : w675.ownsRow N541 3 1 v676 ((P.T.take i ++ (P.T.drop (i + 1))).length) ((P.T.take i ++ (P.T.drop (i + 1))).flatMap (intE .i64)) := row_app hr677; clear hr677
     have hz680 := hg678.size
     have hk681 := hk657.kept hg669 (own_neT hr664 hk657 (by decide))
     have hB682 := fbU_row hB672 (InS.low hr668' (by omega)) hg678
     have hr683 := row_kept_ap hr673 hr668' hu666 hg678
     exact ⟨hB682, hr683⟩
    rintro v676 w675 a674 ⟨hr677, hg678⟩ h674
    have hr677' : w675.ownsRow N541 3 1 v676 ((P.T.take i ++ (P.T.drop (i + 1))).length) ((P.T.take i ++ (P.T.drop (i + 1))).flatMap (intE .i64)) := row_app hr677; clear hr677
    have hz680 := hg678.size
    have hk681 := hk657.kept hg669 (own_neT hr664 hk657 (by decide))
    have hB682 := fbU_row hB672 (InS.low hr668' (by omega)) hg678
    have hr683 := row_kept_ap hr673 hr668' hu666 hg678
    refine dk0 17 (v := pt b 0) h674 rfl rfl ⟨hB682, hr683⟩ fun a684 h684 => ?_; clear h674
    refine dk0 18 (v := pt b 5) h684 rfl rfl ⟨hB682, hr683⟩ fun a685 h685 => ?_; clear h684
    have hk691 := hk681.kept hg678 (own_neT hr668' hk681 (by decide))
    refine d1D 19 h685 rfl rfl (op_store1 rfl rfl rfl (row_one hr677') Try.sizeOf93 hk691 rfl) ?_ ?_; clear h685
    ·
     rintro _ w687 ⟨hk688, hz689, hg690⟩
     have hk688' : Blk w687 b 95 #[pt NA 0, pt NB 0, .int .i64 P.b0, .int .i64 P.b1, wk, v676, .int .i64 P.s0, .int .i64 P.s1, .int .i64 P.t0, .int .i64 P.t1, .bool true] := hk688; clear hk688
     have hz692 := hg690.size
     have hB693 := fbU_at hB682 hg690 (fun hlt => by rcases hSb with hq | hq; exact hq; omega)
     have hr694 := row_kept_at hr683 hg690 (own_neT hr683 hk691 (by decide))
     exact ⟨hB693, hr694⟩
    rintro _ w687 a686 ⟨hk688, hz689, hg690⟩ h686
    have hk688' : Blk w687 b 95 #[pt NA 0, pt NB 0, .int .i64 P.b0, .int .i64 P.b1, wk, v676, .int .i64 P.s0, .int .i64 P.s1, .int .i64 P.t0, .int .i64 P.t1, .bool true] := hk688; clear hk688
    have hz692 := hg690.size
    refine dr_done (by kernel_rfl) ?_
    refine co_ret0n h686 rfl ?_
    have hO693 := LkP.gr hO553 hg542 (fun k e => by cases e)
    have hO694 := LkP.gr hO693 hg669 (fun k e => (offR_row (LkP.ofS hQ.hA) hr664 (by omega)) k e)
    have hO695 := LkP.gr hO694 hg678 (fun k e => (offR_row (LkP.ofS hQ.hA) hr668' (by omega)) k e)
    have hO696 := LkP.gr hO695 hg690 (fun k e => by cases e; exact hQ.nA)
    have hO697 := LkP.gr hO555 hg542 (fun k e => by cases e)
    have hO698 := LkP.gr hO697 hg669 (fun k e => (offR_row (LkP.ofS hQ.hB) hr664 (by omega)) k e)
    have hO699 := LkP.gr hO698 hg678 (fun k e => (offR_row (LkP.ofS hQ.hB) hr668' (by omega)) k e)
    have hO700 := LkP.gr hO699 hg690 (fun k e => by cases e; exact hQ.nB)
    have hr701 := row_kept_new hr547 hg542
    have hr702 := row_kept_ap hr701 hr664 hu548 hg669
    have hr703 := row_kept_ap hr702 hr668' hu548 hg678
    have hr704 := row_kept_at hr703 hg690 (own_neT hr703 hk691 (by decide))
    have hr705 := row_kept_at hr677' hg690 (own_neT hr677' hk691 (by decide))
    have hB706 := fbU_at hB682 hg690 (fun hlt => by rcases hSb with hq | hq; exact hq; omega)
    obtain ⟨S9, h1, h2⟩ := PrO.fin (P := goneP P i) (NA := NA) (NB := NB) (wv := wk) (tv := v676) (w := w) hk688' hO696 hO700 hr704 hr705 hQ.ap hQ.nA hQ.nB hi511 hi512 (offR_row (LkP.ofS hQ.hA) hr705 (by omega)) (offR_row (LkP.ofS hQ.hB) hr705 (by omega)) hSb hinA hinB (InS.low hr704 (by omega)) (InS.low hr705 (by omega)) hB706
    exact ⟨S9, rfl, h1, h2, hB706⟩
 ·
  have hk707 := hf513.kept hg522 (by simp)
  refine dr_opVal (i := 5) (v := tv) h538 rfl rfl rfl rfl (by kernel_rfl) rfl (rn_load1 rfl rfl Try.isAgg93 (hk707.cell rfl)) ⟨hB527, hr528⟩ (fun a708 h708 => ?_); clear h538
  refine dk 7 (v := subV tv 0 i 1) h708 rfl rfl ⟨hB527, hr528⟩ (fun x hx => (rn_sliceTo rfl rfl rfl Try.underlying93 Try.sizeOf3 (row_sl hx.2 intE_lenL) (by omega) (by omega))) fun a709 h709 => ?_; clear h708
  refine dr_many [1, 12] (by kernel_rfl) (by simp) ⟨?_, ?_, trivial⟩
  ·
   refine dr_op (i := 1) h709 rfl rfl rfl rfl (op_new (v := fun N => .slice (some ⟨N, 0, none⟩) 0 0) (T := 3) (cs := #[]) (by kernel_rfl) (by kernel_rfl) (by kernel_rfl)) ?_ ?_; clear h709
   ·
    rintro _ w711 ⟨N712, rfl, hN715, hz716, hk714, hg713⟩
    have hr718 := row_kept_new hf516 hg522
    have ha717 := row_fresh hr718 hN715
    have hu719 := row_under hr718 hN715
    have ha720 := row_fresh hr528 hN715
    have hu721 := row_under hr528 hN715
    have hz722 := hg713.size
    have hO724 := LkP.gr hf514 hg522 (fun k e => by cases e)
    have ho723 := off_new (LkP.ofS hO724) hN715
    have hO726 := LkP.gr hf515 hg522 (fun k e => by cases e)
    have ho725 := off_new (LkP.ofS hO726) hN715
    have hB727 := fbU_new hB527 hg713
    have hr728 := row_kept_new hr528 hg713
    exact ⟨hB727, hr728⟩
   rintro _ w711 a710 ⟨N712, rfl, hN715, hz716, hk714, hg713⟩ h710
   have hr718 := row_kept_new hf516 hg522
   have ha717 := row_fresh hr718 hN715
   have hu719 := row_under hr718 hN715
   have ha720 := row_fresh hr528 hN715
   have hu721 := row_under hr528 hN715
   have hz722 := hg713.size
   have hO724 := LkP.gr hf514 hg522 (fun k e => by cases e)
   have ho723 := off_new (LkP.ofS hO724) hN715
   have hO726 := LkP.gr hf515 hg522 (fun k e => by cases e)
   have ho725 := off_new (LkP.ofS hO726) hN715
   try dsimp only at h710
   have hB727 := fbU_new hB527 hg713
   have hr728 := row_kept_new hr528 hg713
   refine dr_many [8, 12] (by kernel_rfl) (by simp) ⟨?_, ?_, trivial⟩
   ·
    have hr731 := row_of_blkL hk714 (Nat.le_refl _) 1 (intE .i64)
    have hu732 : ∀ i, Value.ownBlock wv = some i → i < N712 := fun i hi => by have := (hW0.lt i hi).2; omega
    have hu733 : ∀ i, Value.ownBlock tv = some i → i < N712 := fun i hi => by have := (hT0.lt i hi).2; omega
    refine dr_op (i := 8) h710 rfl rfl rfl rfl (op_appendSrc rfl N712 3 (z := .int .i64 0) (size := 1) (bytes := 8) Try.underlying93 (by kernel_rfl) rfl rfl rfl hr731 rfl (sl_take (row_sl hr728 intE_lenL) _ (by omega)) (fun y hy => ⟨intE_lenL y, intE_oneL y⟩) (by first | omega | (simp only [List.length_nil, List.length_append, List.length_cons, List.length_take, List.length_drop]; omega)) (by first | omega | (simp only [List.length_nil, List.length_append, List.length_cons, List.length_take, List.length_drop]; omega)) (by omega)) ?_ ?_; clear h710
    ·
     rintro v734 w730 ⟨hr735, hg736⟩
     have hr735' : w730.ownsRow N712 3 1 v734 ((P.T.take i).length) ((P.T.take i).flatMap (intE .i64)) := row_app (l := []) hr735; clear hr735
     have hz738 := hg736.size
     have hk739 := hk707.kept hg713 (by simp)
     have hB740 := fbU_row hB727 (InS.low hr731 (by omega)) hg736
     have hr741 := row_kept_ap hr728 hr731 hu733 hg736
     exact ⟨hB740, hr741⟩
    rintro v734 w730 a729 ⟨hr735, hg736⟩ h729
    have hr735' : w730.ownsRow N712 3 1 v734 ((P.T.take i).length) ((P.T.take i).flatMap (intE .i64)) := row_app (l := []) hr735; clear hr735
    have hz738 := hg736.size
    have hk739 := hk707.kept hg713 (by simp)
    have hB740 := fbU_row hB727 (InS.low hr731 (by omega)) hg736
    have hr741 := row_kept_ap hr728 hr731 hu733 hg736
    refine dr_many [12] (by kernel_rfl) (by simp) ⟨?_, trivial⟩
    ·
     have hk742 := hk739.kept hg736 (own_neT hr731 hk739 (by decide))
     refine dr_opVal (i := 12) (v := tv) h729 rfl rfl rfl rfl (by kernel_rfl) rfl (rn_load1 rfl rfl Try.isAgg93 (hk742.cell rfl)) ⟨hB740, hr741⟩ (fun a743 h743 => ?_); clear h729
     refine dk 15 (v := subV tv (i + 1) P.T.length 1) h743 rfl rfl ⟨hB740, hr741⟩ (fun x hx => (rn_sliceFrom rfl rfl rfl Try.underlying93 Try.sizeOf3 (row_sl hx.2 intE_lenL) (by omega) (by omega))) fun a744 h744 => ?_; clear h743
     refine d1 16 h744 rfl rfl (op_appendSrc rfl N712 3 (z := .int .i64 0) (size := 1) (bytes := 8) Try.underlying93 (by kernel_rfl) rfl rfl rfl hr735' rfl (sl_drop (row_sl hr741 intE_lenL) _ (by omega)) (fun y hy => ⟨intE_lenL y, intE_oneL y⟩) (by first | omega | (simp only [List.length_nil, List.length_append, List.length_cons, List.length_take, List.length_drop]; omega)) (by first | omega | (simp only [List.length_nil, List.length_append, List.length_cons, List.length_take, List.length_drop]; omega)) (by omega)) ?_ ?_; clear h744
     ·
      rintro v747 w746 ⟨hr748, hg749⟩
      have hr748' : w746.ownsRow N712 3 1 v747 ((P.T.take i ++ (P.T.drop (i + 1))).length) ((P.T.take i ++ (P.T.drop (i + 1))).flatMap (intE .i64)) := row_app hr748; clear hr748
      have hz751 := hg749.size
      have hB752 := fbU_row hB740 (InS.low hr735' (by omega)) hg749
      have hr753 := row_kept_ap hr741 hr735' hu733 hg749
      exact ⟨hB752, hr753⟩
     rintro v747 w746 a745 ⟨hr748, hg749⟩ h745
     have hr748' : w746.ownsRow N712 3 1 v747 ((P.T.take i ++ (P.T.drop (i + 1))).length) ((P.T.take i ++ (P.T.drop (i + 1))).flatMap (intE .i64)) := row_app hr748; clear hr748
     have hz751 := hg749.size
     have hB752 := fbU_row hB740 (InS.low hr735' (by omega)) hg749
     have hr753 := row_kept_ap hr741 hr735' hu733 hg749
     refine dk0 17 (v := pt b 0) h745 rfl rfl ⟨hB752, hr753⟩ fun a754 h754 => ?_; clear h745
     refine dk0 18 (v := pt b 5) h754 rfl rfl ⟨hB752, hr753⟩ fun a755 h755 => ?_; clear h754
     have hk761 := hk742.kept hg749 (own_neT hr735' hk742 (by decide))
     refine d1D 19 h755 rfl rfl (op_store1 rfl rfl rfl (row_one hr748') Try.sizeOf93 hk761 rfl) ?_ ?_; clear h755
     ·
      rintro _ w757 ⟨hk758, hz759, hg760⟩
      have hk758' : Blk w757 b 95 #[pt NA 0, pt NB 0, .int .i64 P.b0, .int .i64 P.b1, wk, v747, .int .i64 P.s0, .int .i64 P.s1, .int .i64 P.t0, .int .i64 P.t1, .bool true] := hk758; clear hk758
      have hz762 := hg760.size
      have hB763 := fbU_at hB752 hg760 (fun hlt => by rcases hSb with hq | hq; exact hq; omega)
      have hr764 := row_kept_at hr753 hg760 (own_neT hr753 hk761 (by decide))
      exact ⟨hB763, hr764⟩
     rintro _ w757 a756 ⟨hk758, hz759, hg760⟩ h756
     have hk758' : Blk w757 b 95 #[pt NA 0, pt NB 0, .int .i64 P.b0, .int .i64 P.b1, wk, v747, .int .i64 P.s0, .int .i64 P.s1, .int .i64 P.t0, .int .i64 P.t1, .bool true] := hk758; clear hk758
     have hz762 := hg760.size
     refine dr_done (by kernel_rfl) ?_
     refine co_ret0n h756 rfl ?_
     have hO763 := LkP.gr hO724 hg713 (fun k e => by cases e)
     have hO764 := LkP.gr hO763 hg736 (fun k e => (offR_row (LkP.ofS hQ.hA) hr731 (by omega)) k e)
     have hO765 := LkP.gr hO764 hg749 (fun k e => (offR_row (LkP.ofS hQ.hA) hr735' (by omega)) k e)
     have hO766 := LkP.gr hO765 hg760 (fun k e => by cases e; exact hQ.nA)
     have hO767 := LkP.gr hO726 hg713 (fun k e => by cases e)
     have hO768 := LkP.gr hO767 hg736 (fun k e => (offR_row (LkP.ofS hQ.hB) hr731 (by omega)) k e)
     have hO769 := LkP.gr hO768 hg749 (fun k e => (offR_row (LkP.ofS hQ.hB) hr735' (by omega)) k e)
     have hO770 := LkP.gr hO769 hg760 (fun k e => by cases e; exact hQ.nB)
     have hr771 := row_kept_new hr718 hg713
     have hr772 := row_kept_ap hr771 hr731 hu719 hg736
     have hr773 := row_kept_ap hr772 hr735' hu719 hg749
     have hr774 := row_kept_at hr773 hg760 (own_neT hr773 hk761 (by decide))
     have hr775 := row_kept_at hr748' hg760 (own_neT hr748' hk761 (by decide))
     have hB776 := fbU_at hB752 hg760 (fun hlt => by rcases hSb with hq | hq; exact hq; omega)
     obtain ⟨S9, h1, h2⟩ := PrO.fin (P := goneP P i) (NA := NA) (NB := NB) (wv := wk) (tv := v747) (w := w) hk758' hO766 hO770 hr774 hr775 hQ.ap hQ.nA hQ.nB hi511 hi512 (offR_row (LkP.ofS hQ.hA) hr775 (by omega)) (offR_row (LkP.ofS hQ.hB) hr775 (by omega)) hSb hinA hinB (InS.low hr774 (by omega)) (InS.low hr775 (by omega)) hB776
     exact ⟨S9, rfl, h1, h2, hB776⟩
   ·
    have hk777 := hk707.kept hg713 (by simp)
    refine dr_opVal (i := 12) (v := tv) h710 rfl rfl rfl rfl (by kernel_rfl) rfl (rn_load1 rfl rfl Try.isAgg93 (hk777.cell rfl)) ⟨hB727, hr728⟩ (fun a778 h778 => ?_); clear h710
    refine dk 15 (v := subV tv (i + 1) P.T.length 1) h778 rfl rfl ⟨hB727, hr728⟩ (fun x hx => (rn_sliceFrom rfl rfl rfl Try.underlying93 Try.sizeOf3 (row_sl hx.2 intE_lenL) (by omega) (by omega))) fun a779 h779 => ?_; clear h778
    have hr782 := row_of_blkL hk714 (Nat.le_refl _) 1 (intE .i64)
    have hu783 : ∀ i, Value.ownBlock wv = some i → i < N712 := fun i hi => by have := (hW0.lt i hi).2; omega
    have hu784 : ∀ i, Value.ownBlock tv = some i → i < N712 := fun i hi => by have := (hT0.lt i hi).2; omega
    refine d1 8 h779 rfl rfl (op_appendSrc rfl N712 3 (z := .int .i64 0) (size := 1) (bytes := 8) Try.underlying93 (by kernel_rfl) rfl rfl rfl hr782 rfl (sl_take (row_sl hr728 intE_lenL) _ (by omega)) (fun y hy => ⟨intE_lenL y, intE_oneL y⟩) (by first | omega | (simp only [List.length_nil, List.length_append, List.length_cons, List.length_take, List.length_drop]; omega)) (by first | omega | (simp only [List.length_nil, List.length_append, List.length_cons, List.length_take, List.length_drop]; omega)) (by omega)) ?_ ?_; clear h779
    ·
     rintro v785 w781 ⟨hr786, hg787⟩
     have hr786' : w781.ownsRow N712 3 1 v785 ((P.T.take i).length) ((P.T.take i).flatMap (intE .i64)) := row_app (l := []) hr786; clear hr786
     have hz789 := hg787.size
     have hB790 := fbU_row hB727 (InS.low hr782 (by omega)) hg787
     have hr791 := row_kept_ap hr728 hr782 hu784 hg787
     exact ⟨hB790, hr791⟩
    rintro v785 w781 a780 ⟨hr786, hg787⟩ h780
    have hr786' : w781.ownsRow N712 3 1 v785 ((P.T.take i).length) ((P.T.take i).flatMap (intE .i64)) := row_app (l := []) hr786; clear hr786
    have hz789 := hg787.size
    have hB790 := fbU_row hB727 (InS.low hr782 (by omega)) hg787
    have hr791 := row_kept_ap hr728 hr782 hu784 hg787
    refine d1 16 h780 rfl rfl (op_appendSrc rfl N712 3 (z := .int .i64 0) (size := 1) (bytes := 8) Try.underlying93 (by kernel_rfl) rfl rfl rfl hr786' rfl (sl_drop (row_sl hr791 intE_lenL) _ (by omega)) (fun y hy => ⟨intE_lenL y, intE_oneL y⟩) (by first | omega | (simp only [List.length_nil, List.length_append, List.length_cons, List.length_take, List.length_drop]; omega)) (by first | omega | (simp only [List.length_nil, List.length_append, List.length_cons, List.length_take, List.length_drop]; omega)) (by omega)) ?_ ?_; clear h780
    ·
     rintro v794 w793 ⟨hr795, hg796⟩
     have hr795' : w793.ownsRow N712 3 1 v794 ((P.T.take i ++ (P.T.drop (i + 1))).length) ((P.T.take i ++ (P.T.drop (i + 1))).flatMap (intE .i64)) := row_app hr795; clear hr795
     have hz798 := hg796.size
     have hk799 := hk777.kept hg787 (own_neT hr782 hk777 (by decide))
     have hB800 := fbU_row hB790 (InS.low hr786' (by omega)) hg796
     have hr801 := row_kept_ap hr791 hr786' hu784 hg796
     exact ⟨hB800, hr801⟩
    rintro v794 w793 a792 ⟨hr795, hg796⟩ h792
    have hr795' : w793.ownsRow N712 3 1 v794 ((P.T.take i ++ (P.T.drop (i + 1))).length) ((P.T.take i ++ (P.T.drop (i + 1))).flatMap (intE .i64)) := row_app hr795; clear hr795
    have hz798 := hg796.size
    have hk799 := hk777.kept hg787 (own_neT hr782 hk777 (by decide))
    have hB800 := fbU_row hB790 (InS.low hr786' (by omega)) hg796
    have hr801 := row_kept_ap hr791 hr786' hu784 hg796
    refine dk0 17 (v := pt b 0) h792 rfl rfl ⟨hB800, hr801⟩ fun a802 h802 => ?_; clear h792
    refine dk0 18 (v := pt b 5) h802 rfl rfl ⟨hB800, hr801⟩ fun a803 h803 => ?_; clear h802
    have hk809 := hk799.kept hg796 (own_neT hr786' hk799 (by decide))
    refine d1D 19 h803 rfl rfl (op_store1 rfl rfl rfl (row_one hr795') Try.sizeOf93 hk809 rfl) ?_ ?_; clear h803
    ·
     rintro _ w805 ⟨hk806, hz807, hg808⟩
     have hk806' : Blk w805 b 95 #[pt NA 0, pt NB 0, .int .i64 P.b0, .int .i64 P.b1, wk, v794, .int .i64 P.s0, .int .i64 P.s1, .int .i64 P.t0, .int .i64 P.t1, .bool true] := hk806; clear hk806
     have hz810 := hg808.size
     have hB811 := fbU_at hB800 hg808 (fun hlt => by rcases hSb with hq | hq; exact hq; omega)
     have hr812 := row_kept_at hr801 hg808 (own_neT hr801 hk809 (by decide))
     exact ⟨hB811, hr812⟩
    rintro _ w805 a804 ⟨hk806, hz807, hg808⟩ h804
    have hk806' : Blk w805 b 95 #[pt NA 0, pt NB 0, .int .i64 P.b0, .int .i64 P.b1, wk, v794, .int .i64 P.s0, .int .i64 P.s1, .int .i64 P.t0, .int .i64 P.t1, .bool true] := hk806; clear hk806
    have hz810 := hg808.size
    refine dr_done (by kernel_rfl) ?_
    refine co_ret0n h804 rfl ?_
    have hO811 := LkP.gr hO724 hg713 (fun k e => by cases e)
    have hO812 := LkP.gr hO811 hg787 (fun k e => (offR_row (LkP.ofS hQ.hA) hr782 (by omega)) k e)
    have hO813 := LkP.gr hO812 hg796 (fun k e => (offR_row (LkP.ofS hQ.hA) hr786' (by omega)) k e)
    have hO814 := LkP.gr hO813 hg808 (fun k e => by cases e; exact hQ.nA)
    have hO815 := LkP.gr hO726 hg713 (fun k e => by cases e)
    have hO816 := LkP.gr hO815 hg787 (fun k e => (offR_row (LkP.ofS hQ.hB) hr782 (by omega)) k e)
    have hO817 := LkP.gr hO816 hg796 (fun k e => (offR_row (LkP.ofS hQ.hB) hr786' (by omega)) k e)
    have hO818 := LkP.gr hO817 hg808 (fun k e => by cases e; exact hQ.nB)
    have hr819 := row_kept_new hr718 hg713
    have hr820 := row_kept_ap hr819 hr782 hu719 hg787
    have hr821 := row_kept_ap hr820 hr786' hu719 hg796
    have hr822 := row_kept_at hr821 hg808 (own_neT hr821 hk809 (by decide))
    have hr823 := row_kept_at hr795' hg808 (own_neT hr795' hk809 (by decide))
    have hB824 := fbU_at hB800 hg808 (fun hlt => by rcases hSb with hq | hq; exact hq; omega)
    obtain ⟨S9, h1, h2⟩ := PrO.fin (P := goneP P i) (NA := NA) (NB := NB) (wv := wk) (tv := v794) (w := w) hk806' hO814 hO818 hr822 hr823 hQ.ap hQ.nA hQ.nB hi511 hi512 (offR_row (LkP.ofS hQ.hA) hr823 (by omega)) (offR_row (LkP.ofS hQ.hB) hr823 (by omega)) hSb hinA hinB (InS.low hr822 (by omega)) (InS.low hr823 (by omega)) hB824
    exact ⟨S9, rfl, h1, h2, hB824⟩
  ·
   refine dr_opVal (i := 12) (v := tv) h709 rfl rfl rfl rfl (by kernel_rfl) rfl (rn_load1 rfl rfl Try.isAgg93 (hk707.cell rfl)) ⟨hB527, hr528⟩ (fun a825 h825 => ?_); clear h709
   refine dk 15 (v := subV tv (i + 1) P.T.length 1) h825 rfl rfl ⟨hB527, hr528⟩ (fun x hx => (rn_sliceFrom rfl rfl rfl Try.underlying93 Try.sizeOf3 (row_sl hx.2 intE_lenL) (by omega) (by omega))) fun a826 h826 => ?_; clear h825
   refine d1 1 h826 rfl rfl (op_new (v := fun N => .slice (some ⟨N, 0, none⟩) 0 0) (T := 3) (cs := #[]) (by kernel_rfl) (by kernel_rfl) (by kernel_rfl)) ?_ ?_; clear h826
   ·
    rintro _ w828 ⟨N829, rfl, hN832, hz833, hk831, hg830⟩
    have hr835 := row_kept_new hf516 hg522
    have ha834 := row_fresh hr835 hN832
    have hu836 := row_under hr835 hN832
    have ha837 := row_fresh hr528 hN832
    have hu838 := row_under hr528 hN832
    have hz839 := hg830.size
    have hO841 := LkP.gr hf514 hg522 (fun k e => by cases e)
    have ho840 := off_new (LkP.ofS hO841) hN832
    have hO843 := LkP.gr hf515 hg522 (fun k e => by cases e)
    have ho842 := off_new (LkP.ofS hO843) hN832
    have hB844 := fbU_new hB527 hg830
    have hr845 := row_kept_new hr528 hg830
    exact ⟨hB844, hr845⟩
   rintro _ w828 a827 ⟨N829, rfl, hN832, hz833, hk831, hg830⟩ h827
   have hr835 := row_kept_new hf516 hg522
   have ha834 := row_fresh hr835 hN832
   have hu836 := row_under hr835 hN832
   have ha837 := row_fresh hr528 hN832
   have hu838 := row_under hr528 hN832
   have hz839 := hg830.size
   have hO841 := LkP.gr hf514 hg522 (fun k e => by cases e)
   have ho840 := off_new (LkP.ofS hO841) hN832
   have hO843 := LkP.gr hf515 hg522 (fun k e => by cases e)
   have ho842 := off_new (LkP.ofS hO843) hN832
   try dsimp only at h827
   have hB844 := fbU_new hB527 hg830
   have hr845 := row_kept_new hr528 hg830
   have hr848 := row_of_blkL hk831 (Nat.le_refl _) 1 (intE .i64)
   have hu849 : ∀ i, Value.ownBlock wv = some i → i < N829 := fun i hi => by have := (hW0.lt i hi).2; omega
   have hu850 : ∀ i, Value.ownBlock tv = some i → i < N829 := fun i hi => by have := (hT0.lt i hi).2; omega
   refine d1 8 h827 rfl rfl (op_appendSrc rfl N829 3 (z := .int .i64 0) (size := 1) (bytes := 8) Try.underlying93 (by kernel_rfl) rfl rfl rfl hr848 rfl (sl_take (row_sl hr845 intE_lenL) _ (by omega)) (fun y hy => ⟨intE_lenL y, intE_oneL y⟩) (by first | omega | (simp only [List.length_nil, List.length_append, List.length_cons, List.length_take, List.length_drop]; omega)) (by first | omega | (simp only [List.length_nil, List.length_append, List.length_cons, List.length_take, List.length_drop]; omega)) (by omega)) ?_ ?_; clear h827
   ·
    rintro v851 w847 ⟨hr852, hg853⟩
    have hr852' : w847.ownsRow N829 3 1 v851 ((P.T.take i).length) ((P.T.take i).flatMap (intE .i64)) := row_app (l := []) hr852; clear hr852
    have hz855 := hg853.size
    have hk856 := hk707.kept hg830 (by simp)
    have hB857 := fbU_row hB844 (InS.low hr848 (by omega)) hg853
    have hr858 := row_kept_ap hr845 hr848 hu850 hg853
    exact ⟨hB857, hr858⟩
   rintro v851 w847 a846 ⟨hr852, hg853⟩ h846
   have hr852' : w847.ownsRow N829 3 1 v851 ((P.T.take i).length) ((P.T.take i).flatMap (intE .i64)) := row_app (l := []) hr852; clear hr852
   have hz855 := hg853.size
   have hk856 := hk707.kept hg830 (by simp)
   have hB857 := fbU_row hB844 (InS.low hr848 (by omega)) hg853
   have hr858 := row_kept_ap hr845 hr848 hu850 hg853
   refine d1 16 h846 rfl rfl (op_appendSrc rfl N829 3 (z := .int .i64 0) (size := 1) (bytes := 8) Try.underlying93 (by kernel_rfl) rfl rfl rfl hr852' rfl (sl_drop (row_sl hr858 intE_lenL) _ (by omega)) (fun y hy => ⟨intE_lenL y, intE_oneL y⟩) (by first | omega | (simp only [List.length_nil, List.length_append, List.length_cons, List.length_take, List.length_drop]; omega)) (by first | omega | (simp only [List.length_nil, List.length_append, List.length_cons, List.length_take, List.length_drop]; omega)) (by omega)) ?_ ?_; clear h846
   ·
    rintro v861 w860 ⟨hr862, hg863⟩
    have hr862' : w860.ownsRow N829 3 1 v861 ((P.T.take i ++ (P.T.drop (i + 1))).length) ((P.T.take i ++ (P.T.drop (i + 1))).flatMap (intE .i64)) := row_app hr862; clear hr862
    have hz865 := hg863.size
    have hk866 := hk856.kept hg853 (own_neT hr848 hk856 (by decide))
    have hB867 := fbU_row hB857 (InS.low hr852' (by omega)) hg863
    have hr868 := row_kept_ap hr858 hr852' hu850 hg863
    exact ⟨hB867, hr868⟩
   rintro v861 w860 a859 ⟨hr862, hg863⟩ h859
   have hr862' : w860.ownsRow N829 3 1 v861 ((P.T.take i ++ (P.T.drop (i + 1))).length) ((P.T.take i ++ (P.T.drop (i + 1))).flatMap (intE .i64)) := row_app hr862; clear hr862
   have hz865 := hg863.size
   have hk866 := hk856.kept hg853 (own_neT hr848 hk856 (by decide))
   have hB867 := fbU_row hB857 (InS.low hr852' (by omega)) hg863
   have hr868 := row_kept_ap hr858 hr852' hu850 hg863
   refine dk0 17 (v := pt b 0) h859 rfl rfl ⟨hB867, hr868⟩ fun a869 h869 => ?_; clear h859
   refine dk0 18 (v := pt b 5) h869 rfl rfl ⟨hB867, hr868⟩ fun a870 h870 => ?_; clear h869
   have hk876 := hk866.kept hg863 (own_neT hr852' hk866 (by decide))
   refine d1D 19 h870 rfl rfl (op_store1 rfl rfl rfl (row_one hr862') Try.sizeOf93 hk876 rfl) ?_ ?_; clear h870
   ·
    rintro _ w872 ⟨hk873, hz874, hg875⟩
    have hk873' : Blk w872 b 95 #[pt NA 0, pt NB 0, .int .i64 P.b0, .int .i64 P.b1, wk, v861, .int .i64 P.s0, .int .i64 P.s1, .int .i64 P.t0, .int .i64 P.t1, .bool true] := hk873; clear hk873
    have hz877 := hg875.size
    have hB878 := fbU_at hB867 hg875 (fun hlt => by rcases hSb with hq | hq; exact hq; omega)
    have hr879 := row_kept_at hr868 hg875 (own_neT hr868 hk876 (by decide))
    exact ⟨hB878, hr879⟩
   rintro _ w872 a871 ⟨hk873, hz874, hg875⟩ h871
   have hk873' : Blk w872 b 95 #[pt NA 0, pt NB 0, .int .i64 P.b0, .int .i64 P.b1, wk, v861, .int .i64 P.s0, .int .i64 P.s1, .int .i64 P.t0, .int .i64 P.t1, .bool true] := hk873; clear hk873
   have hz877 := hg875.size
   refine dr_done (by kernel_rfl) ?_
   refine co_ret0n h871 rfl ?_
   have hO878 := LkP.gr hO841 hg830 (fun k e => by cases e)
   have hO879 := LkP.gr hO878 hg853 (fun k e => (offR_row (LkP.ofS hQ.hA) hr848 (by omega)) k e)
   have hO880 := LkP.gr hO879 hg863 (fun k e => (offR_row (LkP.ofS hQ.hA) hr852' (by omega)) k e)
   have hO881 := LkP.gr hO880 hg875 (fun k e => by cases e; exact hQ.nA)
   have hO882 := LkP.gr hO843 hg830 (fun k e => by cases e)
   have hO883 := LkP.gr hO882 hg853 (fun k e => (offR_row (LkP.ofS hQ.hB) hr848 (by omega)) k e)
   have hO884 := LkP.gr hO883 hg863 (fun k e => (offR_row (LkP.ofS hQ.hB) hr852' (by omega)) k e)
   have hO885 := LkP.gr hO884 hg875 (fun k e => by cases e; exact hQ.nB)
   have hr886 := row_kept_new hr835 hg830
   have hr887 := row_kept_ap hr886 hr848 hu836 hg853
   have hr888 := row_kept_ap hr887 hr852' hu836 hg863
   have hr889 := row_kept_at hr888 hg875 (own_neT hr888 hk876 (by decide))
   have hr890 := row_kept_at hr862' hg875 (own_neT hr862' hk876 (by decide))
   have hB891 := fbU_at hB867 hg875 (fun hlt => by rcases hSb with hq | hq; exact hq; omega)
   obtain ⟨S9, h1, h2⟩ := PrO.fin (P := goneP P i) (NA := NA) (NB := NB) (wv := wk) (tv := v861) (w := w) hk873' hO881 hO885 hr889 hr890 hQ.ap hQ.nA hQ.nB hi511 hi512 (offR_row (LkP.ofS hQ.hA) hr890 (by omega)) (offR_row (LkP.ofS hQ.hB) hr890 (by omega)) hSb hinA hinB (InS.low hr889 (by omega)) (InS.low hr890 (by omega)) hB891
   exact ⟨S9, rfl, h1, h2, hB891⟩
 ·
  have hk892 := hf513.kept hg522 (by simp)
  refine dr_opVal (i := 12) (v := tv) h538 rfl rfl rfl rfl (by kernel_rfl) rfl (rn_load1 rfl rfl Try.isAgg93 (hk892.cell rfl)) ⟨hB527, hr528⟩ (fun a893 h893 => ?_); clear h538
  refine dk 15 (v := subV tv (i + 1) P.T.length 1) h893 rfl rfl ⟨hB527, hr528⟩ (fun x hx => (rn_sliceFrom rfl rfl rfl Try.underlying93 Try.sizeOf3 (row_sl hx.2 intE_lenL) (by omega) (by omega))) fun a894 h894 => ?_; clear h893
  refine dr_many [1, 5] (by kernel_rfl) (by simp) ⟨?_, ?_, trivial⟩
  ·
   refine dr_op (i := 1) h894 rfl rfl rfl rfl (op_new (v := fun N => .slice (some ⟨N, 0, none⟩) 0 0) (T := 3) (cs := #[]) (by kernel_rfl) (by kernel_rfl) (by kernel_rfl)) ?_ ?_; clear h894
   ·
    rintro _ w896 ⟨N897, rfl, hN900, hz901, hk899, hg898⟩
    have hr903 := row_kept_new hf516 hg522
    have ha902 := row_fresh hr903 hN900
    have hu904 := row_under hr903 hN900
    have ha905 := row_fresh hr528 hN900
    have hu906 := row_under hr528 hN900
    have hz907 := hg898.size
    have hO909 := LkP.gr hf514 hg522 (fun k e => by cases e)
    have ho908 := off_new (LkP.ofS hO909) hN900
    have hO911 := LkP.gr hf515 hg522 (fun k e => by cases e)
    have ho910 := off_new (LkP.ofS hO911) hN900
    have hB912 := fbU_new hB527 hg898
    have hr913 := row_kept_new hr528 hg898
    exact ⟨hB912, hr913⟩
   rintro _ w896 a895 ⟨N897, rfl, hN900, hz901, hk899, hg898⟩ h895
   have hr903 := row_kept_new hf516 hg522
   have ha902 := row_fresh hr903 hN900
   have hu904 := row_under hr903 hN900
   have ha905 := row_fresh hr528 hN900
   have hu906 := row_under hr528 hN900
   have hz907 := hg898.size
   have hO909 := LkP.gr hf514 hg522 (fun k e => by cases e)
   have ho908 := off_new (LkP.ofS hO909) hN900
   have hO911 := LkP.gr hf515 hg522 (fun k e => by cases e)
   have ho910 := off_new (LkP.ofS hO911) hN900
   try dsimp only at h895
   have hB912 := fbU_new hB527 hg898
   have hr913 := row_kept_new hr528 hg898
   refine dr_many [5] (by kernel_rfl) (by simp) ⟨?_, trivial⟩
   ·
    have hk914 := hk892.kept hg898 (by simp)
    refine dr_opVal (i := 5) (v := tv) h895 rfl rfl rfl rfl (by kernel_rfl) rfl (rn_load1 rfl rfl Try.isAgg93 (hk914.cell rfl)) ⟨hB912, hr913⟩ (fun a915 h915 => ?_); clear h895
    refine dk 7 (v := subV tv 0 i 1) h915 rfl rfl ⟨hB912, hr913⟩ (fun x hx => (rn_sliceTo rfl rfl rfl Try.underlying93 Try.sizeOf3 (row_sl hx.2 intE_lenL) (by omega) (by omega))) fun a916 h916 => ?_; clear h915
    have hr919 := row_of_blkL hk899 (Nat.le_refl _) 1 (intE .i64)
    have hu920 : ∀ i, Value.ownBlock wv = some i → i < N897 := fun i hi => by have := (hW0.lt i hi).2; omega
    have hu921 : ∀ i, Value.ownBlock tv = some i → i < N897 := fun i hi => by have := (hT0.lt i hi).2; omega
    refine d1 8 h916 rfl rfl (op_appendSrc rfl N897 3 (z := .int .i64 0) (size := 1) (bytes := 8) Try.underlying93 (by kernel_rfl) rfl rfl rfl hr919 rfl (sl_take (row_sl hr913 intE_lenL) _ (by omega)) (fun y hy => ⟨intE_lenL y, intE_oneL y⟩) (by first | omega | (simp only [List.length_nil, List.length_append, List.length_cons, List.length_take, List.length_drop]; omega)) (by first | omega | (simp only [List.length_nil, List.length_append, List.length_cons, List.length_take, List.length_drop]; omega)) (by omega)) ?_ ?_; clear h916
    ·
     rintro v922 w918 ⟨hr923, hg924⟩
     have hr923' : w918.ownsRow N897 3 1 v922 ((P.T.take i).length) ((P.T.take i).flatMap (intE .i64)) := row_app (l := []) hr923; clear hr923
     have hz926 := hg924.size
     have hB927 := fbU_row hB912 (InS.low hr919 (by omega)) hg924
     have hr928 := row_kept_ap hr913 hr919 hu921 hg924
     exact ⟨hB927, hr928⟩
    rintro v922 w918 a917 ⟨hr923, hg924⟩ h917
    have hr923' : w918.ownsRow N897 3 1 v922 ((P.T.take i).length) ((P.T.take i).flatMap (intE .i64)) := row_app (l := []) hr923; clear hr923
    have hz926 := hg924.size
    have hB927 := fbU_row hB912 (InS.low hr919 (by omega)) hg924
    have hr928 := row_kept_ap hr913 hr919 hu921 hg924
    refine d1 16 h917 rfl rfl (op_appendSrc rfl N897 3 (z := .int .i64 0) (size := 1) (bytes := 8) Try.underlying93 (by kernel_rfl) rfl rfl rfl hr923' rfl (sl_drop (row_sl hr928 intE_lenL) _ (by omega)) (fun y hy => ⟨intE_lenL y, intE_oneL y⟩) (by first | omega | (simp only [List.length_nil, List.length_append, List.length_cons, List.length_take, List.length_drop]; omega)) (by first | omega | (simp only [List.length_nil, List.length_append, List.length_cons, List.length_take, List.length_drop]; omega)) (by omega)) ?_ ?_; clear h917
    ·
     rintro v931 w930 ⟨hr932, hg933⟩
     have hr932' : w930.ownsRow N897 3 1 v931 ((P.T.take i ++ (P.T.drop (i + 1))).length) ((P.T.take i ++ (P.T.drop (i + 1))).flatMap (intE .i64)) := row_app hr932; clear hr932
     have hz935 := hg933.size
     have hk936 := hk914.kept hg924 (own_neT hr919 hk914 (by decide))
     have hB937 := fbU_row hB927 (InS.low hr923' (by omega)) hg933
     have hr938 := row_kept_ap hr928 hr923' hu921 hg933
     exact ⟨hB937, hr938⟩
    rintro v931 w930 a929 ⟨hr932, hg933⟩ h929
    have hr932' : w930.ownsRow N897 3 1 v931 ((P.T.take i ++ (P.T.drop (i + 1))).length) ((P.T.take i ++ (P.T.drop (i + 1))).flatMap (intE .i64)) := row_app hr932; clear hr932
    have hz935 := hg933.size
    have hk936 := hk914.kept hg924 (own_neT hr919 hk914 (by decide))
    have hB937 := fbU_row hB927 (InS.low hr923' (by omega)) hg933
    have hr938 := row_kept_ap hr928 hr923' hu921 hg933
    refine dk0 17 (v := pt b 0) h929 rfl rfl ⟨hB937, hr938⟩ fun a939 h939 => ?_; clear h929
    refine dk0 18 (v := pt b 5) h939 rfl rfl ⟨hB937, hr938⟩ fun a940 h940 => ?_; clear h939
    have hk946 := hk936.kept hg933 (own_neT hr923' hk936 (by decide))
    refine d1D 19 h940 rfl rfl (op_store1 rfl rfl rfl (row_one hr932') Try.sizeOf93 hk946 rfl) ?_ ?_; clear h940
    ·
     rintro _ w942 ⟨hk943, hz944, hg945⟩
     have hk943' : Blk w942 b 95 #[pt NA 0, pt NB 0, .int .i64 P.b0, .int .i64 P.b1, wk, v931, .int .i64 P.s0, .int .i64 P.s1, .int .i64 P.t0, .int .i64 P.t1, .bool true] := hk943; clear hk943
     have hz947 := hg945.size
     have hB948 := fbU_at hB937 hg945 (fun hlt => by rcases hSb with hq | hq; exact hq; omega)
     have hr949 := row_kept_at hr938 hg945 (own_neT hr938 hk946 (by decide))
     exact ⟨hB948, hr949⟩
    rintro _ w942 a941 ⟨hk943, hz944, hg945⟩ h941
    have hk943' : Blk w942 b 95 #[pt NA 0, pt NB 0, .int .i64 P.b0, .int .i64 P.b1, wk, v931, .int .i64 P.s0, .int .i64 P.s1, .int .i64 P.t0, .int .i64 P.t1, .bool true] := hk943; clear hk943
    have hz947 := hg945.size
    refine dr_done (by kernel_rfl) ?_
    refine co_ret0n h941 rfl ?_
    have hO948 := LkP.gr hO909 hg898 (fun k e => by cases e)
    have hO949 := LkP.gr hO948 hg924 (fun k e => (offR_row (LkP.ofS hQ.hA) hr919 (by omega)) k e)
    have hO950 := LkP.gr hO949 hg933 (fun k e => (offR_row (LkP.ofS hQ.hA) hr923' (by omega)) k e)
    have hO951 := LkP.gr hO950 hg945 (fun k e => by cases e; exact hQ.nA)
    have hO952 := LkP.gr hO911 hg898 (fun k e => by cases e)
    have hO953 := LkP.gr hO952 hg924 (fun k e => (offR_row (LkP.ofS hQ.hB) hr919 (by omega)) k e)
    have hO954 := LkP.gr hO953 hg933 (fun k e => (offR_row (LkP.ofS hQ.hB) hr923' (by omega)) k e)
    have hO955 := LkP.gr hO954 hg945 (fun k e => by cases e; exact hQ.nB)
    have hr956 := row_kept_new hr903 hg898
    have hr957 := row_kept_ap hr956 hr919 hu904 hg924
    have hr958 := row_kept_ap hr957 hr923' hu904 hg933
    have hr959 := row_kept_at hr958 hg945 (own_neT hr958 hk946 (by decide))
    have hr960 := row_kept_at hr932' hg945 (own_neT hr932' hk946 (by decide))
    have hB961 := fbU_at hB937 hg945 (fun hlt => by rcases hSb with hq | hq; exact hq; omega)
    obtain ⟨S9, h1, h2⟩ := PrO.fin (P := goneP P i) (NA := NA) (NB := NB) (wv := wk) (tv := v931) (w := w) hk943' hO951 hO955 hr959 hr960 hQ.ap hQ.nA hQ.nB hi511 hi512 (offR_row (LkP.ofS hQ.hA) hr960 (by omega)) (offR_row (LkP.ofS hQ.hB) hr960 (by omega)) hSb hinA hinB (InS.low hr959 (by omega)) (InS.low hr960 (by omega)) hB961
    exact ⟨S9, rfl, h1, h2, hB961⟩
  ·
   refine dr_opVal (i := 5) (v := tv) h894 rfl rfl rfl rfl (by kernel_rfl) rfl (rn_load1 rfl rfl Try.isAgg93 (hk892.cell rfl)) ⟨hB527, hr528⟩ (fun a962 h962 => ?_); clear h894
   refine dk 7 (v := subV tv 0 i 1) h962 rfl rfl ⟨hB527, hr528⟩ (fun x hx => (rn_sliceTo rfl rfl rfl Try.underlying93 Try.sizeOf3 (row_sl hx.2 intE_lenL) (by omega) (by omega))) fun a963 h963 => ?_; clear h962
   refine d1 1 h963 rfl rfl (op_new (v := fun N => .slice (some ⟨N, 0, none⟩) 0 0) (T := 3) (cs := #[]) (by kernel_rfl) (by kernel_rfl) (by kernel_rfl)) ?_ ?_; clear h963
   ·
    rintro _ w965 ⟨N966, rfl, hN969, hz970, hk968, hg967⟩
    have hr972 := row_kept_new hf516 hg522
    have ha971 := row_fresh hr972 hN969
    have hu973 := row_under hr972 hN969
    have ha974 := row_fresh hr528 hN969
    have hu975 := row_under hr528 hN969
    have hz976 := hg967.size
    have hO978 := LkP.gr hf514 hg522 (fun k e => by cases e)
    have ho977 := off_new (LkP.ofS hO978) hN969
    have hO980 := LkP.gr hf515 hg522 (fun k e => by cases e)
    have ho979 := off_new (LkP.ofS hO980) hN969
    have hB981 := fbU_new hB527 hg967
    have hr982 := row_kept_new hr528 hg967
    exact ⟨hB981, hr982⟩
   rintro _ w965 a964 ⟨N966, rfl, hN969, hz970, hk968, hg967⟩ h964
   have hr972 := row_kept_new hf516 hg522
   have ha971 := row_fresh hr972 hN969
   have hu973 := row_under hr972 hN969
   have ha974 := row_fresh hr528 hN969
   have hu975 := row_under hr528 hN969
   have hz976 := hg967.size
   have hO978 := LkP.gr hf514 hg522 (fun k e => by cases e)
   have ho977 := off_new (LkP.ofS hO978) hN969
   have hO980 := LkP.gr hf515 hg522 (fun k e => by cases e)
   have ho979 := off_new (LkP.ofS hO980) hN969
   try dsimp only at h964
   have hB981 := fbU_new hB527 hg967
   have hr982 := row_kept_new hr528 hg967
   have hr985 := row_of_blkL hk968 (Nat.le_refl _) 1 (intE .i64)
   have hu986 : ∀ i, Value.ownBlock wv = some i → i < N966 := fun i hi => by have := (hW0.lt i hi).2; omega
   have hu987 : ∀ i, Value.ownBlock tv = some i → i < N966 := fun i hi => by have := (hT0.lt i hi).2; omega
   refine d1 8 h964 rfl rfl (op_appendSrc rfl N966 3 (z := .int .i64 0) (size := 1) (bytes := 8) Try.underlying93 (by kernel_rfl) rfl rfl rfl hr985 rfl (sl_take (row_sl hr982 intE_lenL) _ (by omega)) (fun y hy => ⟨intE_lenL y, intE_oneL y⟩) (by first | omega | (simp only [List.length_nil, List.length_append, List.length_cons, List.length_take, List.length_drop]; omega)) (by first | omega | (simp only [List.length_nil, List.length_append, List.length_cons, List.length_take, List.length_drop]; omega)) (by omega)) ?_ ?_; clear h964
   ·
    rintro v988 w984 ⟨hr989, hg990⟩
    have hr989' : w984.ownsRow N966 3 1 v988 ((P.T.take i).length) ((P.T.take i).flatMap (intE .i64)) := row_app (l := []) hr989; clear hr989
    have hz992 := hg990.size
    have hk993 := hk892.kept hg967 (by simp)
    have hB994 := fbU_row hB981 (InS.low hr985 (by omega)) hg990
    have hr995 := row_kept_ap hr982 hr985 hu987 hg990
    exact ⟨hB994, hr995⟩
   rintro v988 w984 a983 ⟨hr989, hg990⟩ h983
   have hr989' : w984.ownsRow N966 3 1 v988 ((P.T.take i).length) ((P.T.take i).flatMap (intE .i64)) := row_app (l := []) hr989; clear hr989
   have hz992 := hg990.size
   have hk993 := hk892.kept hg967 (by simp)
   have hB994 := fbU_row hB981 (InS.low hr985 (by omega)) hg990
   have hr995 := row_kept_ap hr982 hr985 hu987 hg990
   refine d1 16 h983 rfl rfl (op_appendSrc rfl N966 3 (z := .int .i64 0) (size := 1) (bytes := 8) Try.underlying93 (by kernel_rfl) rfl rfl rfl hr989' rfl (sl_drop (row_sl hr995 intE_lenL) _ (by omega)) (fun y hy => ⟨intE_lenL y, intE_oneL y⟩) (by first | omega | (simp only [List.length_nil, List.length_append, List.length_cons, List.length_take, List.length_drop]; omega)) (by first | omega | (simp only [List.length_nil, List.length_append, List.length_cons, List.length_take, List.length_drop]; omega)) (by omega)) ?_ ?_; clear h983
   ·
    rintro v998 w997 ⟨hr999, hg1000⟩
    have hr999' : w997.ownsRow N966 3 1 v998 ((P.T.take i ++ (P.T.drop (i + 1))).length) ((P.T.take i ++ (P.T.drop (i + 1))).flatMap (intE .i64)) := row_app hr999; clear hr999
    have hz1002 := hg1000.size
    have hk1003 := hk993.kept hg990 (own_neT hr985 hk993 (by decide))
    have hB1004 := fbU_row hB994 (InS.low hr989' (by omega)) hg1000
    have hr1005 := row_kept_ap hr995 hr989' hu987 hg1000
    exact ⟨hB1004, hr1005⟩
   rintro v998 w997 a996 ⟨hr999, hg1000⟩ h996
   have hr999' : w997.ownsRow N966 3 1 v998 ((P.T.take i ++ (P.T.drop (i + 1))).length) ((P.T.take i ++ (P.T.drop (i + 1))).flatMap (intE .i64)) := row_app hr999; clear hr999
   have hz1002 := hg1000.size
   have hk1003 := hk993.kept hg990 (own_neT hr985 hk993 (by decide))
   have hB1004 := fbU_row hB994 (InS.low hr989' (by omega)) hg1000
   have hr1005 := row_kept_ap hr995 hr989' hu987 hg1000
   refine dk0 17 (v := pt b 0) h996 rfl rfl ⟨hB1004, hr1005⟩ fun a1006 h1006 => ?_; clear h996
   refine dk0 18 (v := pt b 5) h1006 rfl rfl ⟨hB1004, hr1005⟩ fun a1007 h1007 => ?_; clear h1006
   have hk1013 := hk1003.kept hg1000 (own_neT hr989' hk1003 (by decide))
   refine d1D 19 h1007 rfl rfl (op_store1 rfl rfl rfl (row_one hr999') Try.sizeOf93 hk1013 rfl) ?_ ?_; clear h1007
   ·
    rintro _ w1009 ⟨hk1010, hz1011, hg1012⟩
    have hk1010' : Blk w1009 b 95 #[pt NA 0, pt NB 0, .int .i64 P.b0, .int .i64 P.b1, wk, v998, .int .i64 P.s0, .int .i64 P.s1, .int .i64 P.t0, .int .i64 P.t1, .bool true] := hk1010; clear hk1010
    have hz1014 := hg1012.size
    have hB1015 := fbU_at hB1004 hg1012 (fun hlt => by rcases hSb with hq | hq; exact hq; omega)
    have hr1016 := row_kept_at hr1005 hg1012 (own_neT hr1005 hk1013 (by decide))
    exact ⟨hB1015, hr1016⟩
   rintro _ w1009 a1008 ⟨hk1010, hz1011, hg1012⟩ h1008
   have hk1010' : Blk w1009 b 95 #[pt NA 0, pt NB 0, .int .i64 P.b0, .int .i64 P.b1, wk, v998, .int .i64 P.s0, .int .i64 P.s1, .int .i64 P.t0, .int .i64 P.t1, .bool true] := hk1010; clear hk1010
   have hz1014 := hg1012.size
   refine dr_done (by kernel_rfl) ?_
   refine co_ret0n h1008 rfl ?_
   have hO1015 := LkP.gr hO978 hg967 (fun k e => by cases e)
   have hO1016 := LkP.gr hO1015 hg990 (fun k e => (offR_row (LkP.ofS hQ.hA) hr985 (by omega)) k e)
   have hO1017 := LkP.gr hO1016 hg1000 (fun k e => (offR_row (LkP.ofS hQ.hA) hr989' (by omega)) k e)
   have hO1018 := LkP.gr hO1017 hg1012 (fun k e => by cases e; exact hQ.nA)
   have hO1019 := LkP.gr hO980 hg967 (fun k e => by cases e)
   have hO1020 := LkP.gr hO1019 hg990 (fun k e => (offR_row (LkP.ofS hQ.hB) hr985 (by omega)) k e)
   have hO1021 := LkP.gr hO1020 hg1000 (fun k e => (offR_row (LkP.ofS hQ.hB) hr989' (by omega)) k e)
   have hO1022 := LkP.gr hO1021 hg1012 (fun k e => by cases e; exact hQ.nB)
   have hr1023 := row_kept_new hr972 hg967
   have hr1024 := row_kept_ap hr1023 hr985 hu973 hg990
   have hr1025 := row_kept_ap hr1024 hr989' hu973 hg1000
   have hr1026 := row_kept_at hr1025 hg1012 (own_neT hr1025 hk1013 (by decide))
   have hr1027 := row_kept_at hr999' hg1012 (own_neT hr999' hk1013 (by decide))
   have hB1028 := fbU_at hB1004 hg1012 (fun hlt => by rcases hSb with hq | hq; exact hq; omega)
   obtain ⟨S9, h1, h2⟩ := PrO.fin (P := goneP P i) (NA := NA) (NB := NB) (wv := wk) (tv := v998) (w := w) hk1010' hO1018 hO1022 hr1026 hr1027 hQ.ap hQ.nA hQ.nB hi511 hi512 (offR_row (LkP.ofS hQ.hA) hr1027 (by omega)) (offR_row (LkP.ofS hQ.hB) hr1027 (by omega)) hSb hinA hinB (InS.low hr1026 (by omega)) (InS.low hr1027 (by omega)) hB1028
   exact ⟨S9, rfl, h1, h2, hB1028⟩
end Go.Proofs.Ythmljllgfigebaa
