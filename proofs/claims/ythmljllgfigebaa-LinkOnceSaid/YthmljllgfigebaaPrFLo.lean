/- catenalaw22: out. Conditions: none. -/
import Derived.Test.YthmljllgfigebaaLo3
namespace Go.Proofs.Ythmljllgfigebaa
open Go.RowKit Go.PlainAid
set_option linter.unusedVariables false
set_option linter.unusedSimpArgs false


theorem row_kept_off {w x : World} {B sz k : Nat} {e : TypeId} {v v' : Value} {xs : List Value} (h : w.ownsRow B e sz v k xs) (ha : ∀ i, v.ownBlock = some i → v'.ownBlock ≠ some i) (hg : w.grownBy x v'.ownBlock) : x.ownsRow B e sz v k xs := row_sameL h fun i hi => hg.block i (h.lt i hi).2 (fun e => ha i hi e.symm)
theorem ap_went {w : World} {B sz k : Nat} {e : TypeId} {v r u : Value} {xs : List Value} (h : w.ownsRow B e sz r k xs) (ha : ∀ i, r.ownBlock = some i → v.ownBlock ≠ some i) (hw : Went w v u) : ∀ i, r.ownBlock = some i → u.ownBlock ≠ some i := fun i hi hu => by
  rcases hw with k | k
  · exact ha i hi (k ▸ hu)
  · have := k i hu; have := (h.lt i hi).2; omega
def outP (P : PrT) (sd : Int) (g : Bool) (k : Nat) : PrT := if sd = 0 then { P with A := outN P.A, W := P.W ++ (outT P.A g).take k, T := P.T ++ List.replicate k 1 } else { P with B := outN P.B, W := P.W ++ (outT P.B g).take k, T := P.T ++ List.replicate k 0 }
theorem take_push {W l : List SegT} {k : Nat} {y : SegT} (h : l[k]? = some y) : W ++ l.take k ++ [y] = W ++ l.take (k + 1) := by rw [List.take_add_one, h, List.append_assoc]; rfl
theorem rep_push {T : List Int} {k : Nat} {d : Int} : T ++ List.replicate k d ++ [d] = T ++ List.replicate (k + 1) d := by rw [List.append_assoc, List.replicate_succ']

set_option maxRecDepth 100000 in
set_option maxHeartbeats 3200000 in
theorem prOut_any (S : Nat → Prop) (b : Nat) (P : PrT) (sd : Int) (g : Bool) (w : World) (hP : PrO S w b P) (hlW : P.W.length ≤ 200) (hlT : P.T.length = P.W.length) (hsd : sd = 0 ∨ sd = 1) :
    Calls Try.prog 50 #[pt b 0, .int .i64 sd, .bool g] w fun e w' => ∃ (k : Nat) (S' : Nat → Prop), e = .returned (.tuple #[]) ∧ k ≤ (if sd = 0 then outT P.A g else outT P.B g).length ∧ (outP P sd g k).W.length ≤ 200 ∧ PrO S' w' b (outP P sd g k) ∧ Grew S S' w w' ∧ But (S) w w' := by
 have hB0 := But.refl (S) w
 rcases hsd with rfl | rfl
 · skip
   obtain ⟨NA, NB, SA, SB, wv, tv, hQ⟩ := hP
   have hBk : Blk w b 95 #[pt NA 0, pt NB 0, .int .i64 P.b0, .int .i64 P.b1, wv, tv, .int .i64 P.s0, .int .i64 P.s1, .int .i64 P.t0, .int .i64 P.t1, .bool true] := hQ.blk
   have hl_b := hBk.lt
   have hSb : S b ∨ w.heap.size ≤ b := .inl ((hQ.fp b).2 (.inl rfl))
   have hinA : ∀ q, SA q → S q ∨ w.heap.size ≤ q := fun q h => .inl ((hQ.fp q).2 (.inr (.inl h)))
   have hinB : ∀ q, SB q → S q ∨ w.heap.size ≤ q := fun q h => .inl ((hQ.fp q).2 (.inr (.inr (.inl h))))
   have hinw : InS S w.heap.size wv := InS.of (fun i hi => (hQ.fp i).2 (.inr (.inr (.inr (.inl hi)))))
   have hint : InS S w.heap.size tv := InS.of (fun i hi => (hQ.fp i).2 (.inr (.inr (.inr (.inr hi)))))
   have hW0 := hQ.way
   have hT0 := hQ.to
   refine co_enter (n := 58) Try.func50 rfl rfl rfl [(0, pt b 0), (1, .int .i64 0), (2, .bool g)] rfl (fun a h0 => ?_)
   refine co_seq ?_
   refine co_reg ?_
   refine pk0 (v := pt b 0) h0 rfl fun a1 h1 => ?_; clear h0
   refine pk0 (v := .int .i64 0) h1 rfl fun a2 h2 => ?_; clear h1
   refine pk0 (v := pt b 0) h2 rfl fun a3 h3 => ?_; clear h2
   refine pk0 (v := pt b 0) h3 rfl fun a4 h4 => ?_; clear h3
   refine pk0 (v := pt b 0) h4 rfl fun a5 h5 => ?_; clear h4
   refine pk (v := pt NA 0) h5 rfl (rn_load1 rfl rfl Try.isAgg53 (hBk.cell rfl)) fun a6 h6 => ?_; clear h5
   refine pk0 (v := .bool g) h6 rfl fun a7 h7 => ?_; clear h6
   have ho10 := LkP.ofS hQ.hA
   have ho11 := LkP.ofS hQ.hB
   have hlt_wv : ∀ i, Value.ownBlock wv = some i → i < w.heap.size := fun i hi => (hW0.lt i hi).2
   have hlt_tv : ∀ i, Value.ownBlock tv = some i → i < w.heap.size := fun i hi => (hT0.lt i hi).2
   have hltb := Blk.lt hBk
   refine pw h7 rfl (op_call (args := #[pt NA 0, .bool g]) (R := fun res xw => ∃ v : Value, ∃ S' : Nat → Prop, res = v ∧ LkP S' xw NA (outN P.A) ∧ (xw.ownsRow w.heap.size 61 8 v (outT P.A g).length ((outT P.A g).flatMap segE)) ∧ (∀ q, S' q → q < w.heap.size) ∧ Grew SA S' w xw) rfl rfl rfl (by kernel_rfl) (by kernel_rfl) (Try.call37 _ _) (kOut w g hQ.hA) (by rintro e x ⟨v, S', h0, h⟩; exact ⟨_, h0, v, S', rfl, h⟩)) ?_; clear h7
   rintro v12 w9 a8 ⟨_, S13, rfl, hO14, hq16, hq17, hx15⟩ h8
   have hB18 := fbU_foot hB0 hx15.but (fun i hi hq => by rcases hinA i hq with k | k; exact k; omega)
   have hz19 := hB18.size
   have hz20 := hx15.but.size
   have hge : ∀ i, Value.ownBlock v12 = some i → w.heap.size ≤ i := fun i hi => (hq16.lt i hi).1
   have hbody := outT_body hQ.hA.ok g
   have hl21 := outT_len P.A g
   have hrap : ∀ i, Value.ownBlock v12 = some i → Value.ownBlock wv ≠ some i := fun i hi h1 => by have e1 := hge i hi; have e2 := hlt_wv i h1; omega
   have hin22 : ∀ q, S13 q → S q ∨ w.heap.size ≤ q := fun q hq => by rcases hx15.sub q hq with k | k; exact hinA q k; exact .inr (by omega)
   refine pk0 (v := v12) h8 rfl fun a23 h23 => ?_; clear h8
   refine pl_nil ?_
   refine co_then ?_
   refine co_seq ?_
   refine co_reg ?_
   refine pk0 (v := .int .i64 0) h23 rfl fun a24 h24 => ?_; clear h23
   refine pl_nil ?_
   refine co_then ?_
   refine wp_block ?_
   have hiw9 : InS S w.heap.size wv := hinw
   have hit9 : InS S w.heap.size tv := hint
   have hra9 : ∀ i, Value.ownBlock v12 = some i → Value.ownBlock wv ≠ some i := hrap
   have howA9 : ∀ i, Value.ownBlock wv = some i → ¬ S13 i := (Grew.offR hx15 hW0 hQ.wA)
   have hotA9 : ∀ i, Value.ownBlock tv = some i → ¬ S13 i := (Grew.offR hx15 hT0 hQ.tA)
   have howB9 : ∀ i, Value.ownBlock wv = some i → ¬ SB i := hQ.wB
   have hotB9 : ∀ i, Value.ownBlock tv = some i → ¬ SB i := hQ.tB
   have h25 : Slots 58 [(0, pt b 0), (1, .int .i64 0), (6, v12), (7, .int .i64 0)] _ := h24.sub ⟨rfl, rfl, rfl, rfl, trivial⟩; clear h24
   refine co_loop (fun mm a x => ∃ (k : Nat) (wk : Value) (tk : Value), Slots 58 [(0, pt b 0), (1, .int .i64 0), (6, v12), (7, .int .i64 ((k : Nat) : Int))] a ∧ mm = (outT P.A g).length - k ∧ (k ≤ (outT P.A g).length) ∧ (P.W.length + k ≤ 200) ∧ (InS S w.heap.size wk) ∧ (InS S w.heap.size tk) ∧ (∀ i, Value.ownBlock wk = some i → ¬ S13 i) ∧ (∀ i, Value.ownBlock tk = some i → ¬ S13 i) ∧ (∀ i, Value.ownBlock wk = some i → ¬ SB i) ∧ (∀ i, Value.ownBlock tk = some i → ¬ SB i) ∧ (∀ i, Value.ownBlock v12 = some i → Value.ownBlock wk ≠ some i) ∧ Blk x b 95 #[pt NA 0, pt NB 0, .int .i64 P.b0, .int .i64 P.b1, wk, tk, .int .i64 P.s0, .int .i64 P.s1, .int .i64 P.t0, .int .i64 P.t1, .bool true] ∧ LkP S13 x NA (outN P.A) ∧ LkP SB x NB P.B ∧ x.ownsRow w.heap.size 61 8 v12 (outT P.A g).length ((outT P.A g).flatMap segE) ∧ x.ownsRow 0 61 8 wk (P.W ++ (outT P.A g).take k).length ((P.W ++ (outT P.A g).take k).flatMap segE) ∧ x.ownsRow 0 3 1 tk (P.T ++ List.replicate k 1).length ((P.T ++ List.replicate k 1).flatMap (intE .i64)) ∧ But (S) w x) ((outT P.A g).length - 0) ?_ ?_
   have hk26 := Blk.butS hBk hx15.but hQ.nA
   have hO27 := LkP.but hQ.hB hx15.but (ap_symm hQ.ap)
   have hr28 := own_butS hW0 hx15.but hQ.wA
   have hr29 := own_butS hT0 hx15.but hQ.tA
   · exact ⟨0, wv, tv, h25.sub ⟨rfl, rfl, rfl, (slot_eq rfl (congrArg (Value.int .i64) (by first | rfl | omega))), trivial⟩, rfl, by omega, by omega, by exact hiw9, by exact hit9, by exact howA9, by exact hotA9, by exact howB9, by exact hotB9, by exact hra9, hk26, hO14, hO27, hq16, (row_eq hr28 (by first | (simp; done) | exact take_push (by assumption))), (row_eq hr29 (by first | (simp; done) | exact rep_push)), hB18⟩
   · rintro k30 a31 w32 ⟨k, wk, tk, h31, rfl, hi33, hi34, hi35, hi36, hi37, hi38, hi39, hi40, hi41, hf42, hf43, hf44, hf45, hf46, hf47, hB48⟩
     have hz49 := hB48.size
     have hl50 := hf42.lt
     have hrak : ∀ i, Value.ownBlock v12 = some i → Value.ownBlock wk ≠ some i := by assumption
     have hofwA : ∀ i, Value.ownBlock wk = some i → ¬ S13 i := by assumption
     have hoftA : ∀ i, Value.ownBlock tk = some i → ¬ S13 i := by assumption
     have hofwB : ∀ i, Value.ownBlock wk = some i → ¬ SB i := by assumption
     have hoftB : ∀ i, Value.ownBlock tk = some i → ¬ SB i := by assumption
     have hik : InS S w.heap.size wk := by assumption
     have htk : InS S w.heap.size tk := by assumption
     have hlw : (P.W ++ (outT P.A g).take k).length = P.W.length + k := by rw [List.length_append, List.length_take]; omega
     have hlt2 : (P.T ++ List.replicate k 1).length = P.T.length + k := by rw [List.length_append, List.length_replicate]
     refine co_seq ?_
     refine co_seq ?_
     refine co_reg ?_
     refine pk0 (v := .int .i64 ((k : Nat) : Int)) h31 rfl fun a51 h51 => ?_; clear h31
     refine pk0 (v := v12) h51 rfl fun a52 h52 => ?_; clear h51
     refine pk (v := .int .i64 (((outT P.A g).length : Nat) : Int)) h52 rfl (rn_lenOwn rfl rfl Try.underlying67 hf45) fun a53 h53 => ?_; clear h52
     refine pk0 (v := .bool (decide (((k : Nat) : Int) < (((outT P.A g).length : Nat) : Int)))) h53 rfl fun a54 h54 => ?_; clear h53
     refine pk0 (v := .bool (decide (((k : Nat) : Int) < (((outT P.A g).length : Nat) : Int)))) h54 rfl fun a55 h55 => ?_; clear h54
     cases hc56 : (decide (((k : Nat) : Int) < (((outT P.A g).length : Nat) : Int)))
     ·
      rw [hc56] at h55
      have hp57 : ¬ (((k : Nat) : Int) < (((outT P.A g).length : Nat) : Int)) := of_decide_eq_false hc56
      clear hc56
      refine psk h55 rfl fun a58 h58 => ?_; clear h55
      refine psk h58 rfl fun a59 h59 => ?_; clear h58
      refine pk0 (v := .bool false) h59 rfl fun a60 h60 => ?_; clear h59
      refine pk0 (v := .bool false) h60 rfl fun a61 h61 => ?_; clear h60
      refine psk h61 rfl fun a62 h62 => ?_; clear h61
      refine psk h62 rfl fun a63 h63 => ?_; clear h62
      refine psk h63 rfl fun a64 h64 => ?_; clear h63
      refine psk h64 rfl fun a65 h65 => ?_; clear h64
      refine psk h65 rfl fun a66 h66 => ?_; clear h65
      refine psk h66 rfl fun a67 h67 => ?_; clear h66
      refine pk0 (v := .bool false) h67 rfl fun a68 h68 => ?_; clear h67
      refine pl_nil ?_
      refine co_then ?_
      refine co_false h68 rfl ?_
      refine wp_exit ?_
      refine co_thenX ?_
      refine co_thenX ?_
      refine co_blockX ?_
      refine co_ret0n h68 rfl ?_
      obtain ⟨S9, h1, h2⟩ := PrO.fin (P := { P with A := outN P.A, W := P.W ++ (outT P.A g).take k, T := P.T ++ List.replicate k 1 }) (NA := NA) (NB := NB) (wv := wk) (tv := tk) (w := w) hf42 hf43 hf44 hf46 hf47 (ap_symm (ap_symm (Grew.ap hx15 (ap_symm (ap_symm hQ.ap)) (LkP.ofS hQ.hB)))) (Grew.off hx15 hQ.nA hBk.lt) hQ.nB hofwA hofwB hoftA hoftB hSb hin22 hinB hik htk hB48
      exact ⟨k, S9, rfl, by rw [if_pos rfl]; omega, by show (P.W ++ (outT P.A g).take k).length ≤ 200; omega, h1, h2, hB48⟩
     ·
      rw [hc56] at h55
      have hp69 : ((k : Nat) : Int) < (((outT P.A g).length : Nat) : Int) := of_decide_eq_true hc56
      clear hc56
      refine pk0 (v := .int .i64 ((k : Nat) : Int)) h55 rfl fun a70 h70 => ?_; clear h55
      refine pk0 (v := .bool (decide (((k : Nat) : Int) < 9))) h70 rfl fun a71 h71 => ?_; clear h70
      refine pk0 (v := .bool (decide (((k : Nat) : Int) < 9))) h71 rfl fun a72 h72 => ?_; clear h71
      refine pk0 (v := .bool (decide (((k : Nat) : Int) < 9))) h72 rfl fun a73 h73 => ?_; clear h72
      have hc74 : (decide (((k : Nat) : Int) < 9)) = true := decide_eq_true (by omega)
      rw [hc74] at h73; clear hc74
      refine pk0 (v := pt b 0) h73 rfl fun a75 h75 => ?_; clear h73
      refine pk0 (v := pt b 0) h75 rfl fun a76 h76 => ?_; clear h75
      refine pk0 (v := pt b 4) h76 rfl fun a77 h77 => ?_; clear h76
      refine pk (v := wk) h77 rfl (rn_load1 rfl rfl Try.isAgg67 (hf42.cell rfl)) fun a78 h78 => ?_; clear h77
      refine pk (v := .int .i64 (((P.W ++ (outT P.A g).take k).length : Nat) : Int)) h78 rfl (rn_lenOwn rfl rfl Try.underlying67 hf46) fun a79 h79 => ?_; clear h78
      refine pk0 (v := .bool (decide ((((P.W ++ (outT P.A g).take k).length : Nat) : Int) < 200))) h79 rfl fun a80 h80 => ?_; clear h79
      refine pk0 (v := .bool (decide ((((P.W ++ (outT P.A g).take k).length : Nat) : Int) < 200))) h80 rfl fun a81 h81 => ?_; clear h80
      refine pl_nil ?_
      refine co_then ?_
      cases hc82 : (decide ((((P.W ++ (outT P.A g).take k).length : Nat) : Int) < 200))
      ·
       rw [hc82] at h81
       have hp83 : ¬ ((((P.W ++ (outT P.A g).take k).length : Nat) : Int) < 200) := of_decide_eq_false hc82
       clear hc82
       refine co_false h81 rfl ?_
       refine wp_exit ?_
       refine co_thenX ?_
       refine co_thenX ?_
       refine co_blockX ?_
       refine co_ret0n h81 rfl ?_
       obtain ⟨S9, h1, h2⟩ := PrO.fin (P := { P with A := outN P.A, W := P.W ++ (outT P.A g).take k, T := P.T ++ List.replicate k 1 }) (NA := NA) (NB := NB) (wv := wk) (tv := tk) (w := w) hf42 hf43 hf44 hf46 hf47 (ap_symm (ap_symm (Grew.ap hx15 (ap_symm (ap_symm hQ.ap)) (LkP.ofS hQ.hB)))) (Grew.off hx15 hQ.nA hBk.lt) hQ.nB hofwA hofwB hoftA hoftB hSb hin22 hinB hik htk hB48
       exact ⟨k, S9, rfl, by rw [if_pos rfl]; omega, by show (P.W ++ (outT P.A g).take k).length ≤ 200; omega, h1, h2, hB48⟩
      ·
       rw [hc82] at h81
       have hp84 : (((P.W ++ (outT P.A g).take k).length : Nat) : Int) < 200 := of_decide_eq_true hc82
       clear hc82
       refine co_true h81 rfl ?_
       refine wp_skip ?_
       refine co_then ?_
       refine co_seq ?_
       refine wp_block ?_
       refine co_seq ?_
       refine dr_gen (fun x => But (S) w x ∧ x.ownsRow w.heap.size 61 8 v12 ((outT P.A g).length) ((outT P.A g).flatMap segE)) (by kernel_rfl) (fun w85 hg86 => ?_) (fun w85 hg86 => ?_)
       ·
        have hz87 := hg86.size
        have hB88 := fbU_new hB48 hg86
        have hr89 := row_kept_new hf45 hg86
        exact ⟨hB88, hr89⟩
       have hz90 := hg86.size
       have hB91 := fbU_new hB48 hg86
       have hr92 := row_kept_new hf45 hg86
       refine dk0 0 (v := pt b 0) h81 rfl rfl ⟨hB91, hr92⟩ fun a93 h93 => ?_; clear h81
       refine dk0 1 (v := pt b 0) h93 rfl rfl ⟨hB91, hr92⟩ fun a94 h94 => ?_; clear h93
       refine dk0 2 (v := pt b 0) h94 rfl rfl ⟨hB91, hr92⟩ fun a95 h95 => ?_; clear h94
       refine dk0 3 (v := pt b 4) h95 rfl rfl ⟨hB91, hr92⟩ fun a96 h96 => ?_; clear h95
       refine dk0 5 (v := v12) h96 rfl rfl ⟨hB91, hr92⟩ fun a97 h97 => ?_; clear h96
       refine dk0 6 (v := .int .i64 ((k : Nat) : Int)) h97 rfl rfl ⟨hB91, hr92⟩ fun a98 h98 => ?_; clear h97
       obtain ⟨y99, hy99⟩ : ∃ z, (outT P.A g)[k]? = some z := ⟨_, List.getElem?_eq_getElem (by first | omega | (simp; done) | (simp; omega))⟩
       refine dk 7 (v := pt (blkOf v12) (offOf v12 + k * 8)) h98 rfl rfl ⟨hB91, hr92⟩ (fun x hx => (rn_index rfl rfl rfl Try.underlying67 Try.sizeOf61 (row_sl hx.2 segE_len) (by omega) (by first | omega | (simp; done) | (simp; omega)))) fun a100 h100 => ?_; clear h98
       refine dk 8 (v := .agg #[.int .i64 y99.boot, .int .i64 y99.stream, .int .i64 y99.seq, .int .i64 y99.ab, .int .i64 y99.ast, .int .i64 y99.asq, .bool y99.has, .string y99.body]) h100 rfl rfl ⟨hB91, hr92⟩ (fun x hx => (rn_loadN rfl rfl Try.underlying61 rfl (by kernel_rfl) (sl_at (row_sl hx.2 segE_len) hy99))) fun a101 h101 => ?_; clear h100
       refine dr_many [4, 9] (by kernel_rfl) (by simp) ⟨?_, ?_, trivial⟩
       ·
        have hk102 := hf42.kept hg86 (by simp)
        refine dr_opVal (i := 4) (v := wk) h101 rfl rfl rfl rfl (by kernel_rfl) rfl (rn_load1 rfl rfl Try.isAgg67 (hk102.cell rfl)) ⟨hB91, hr92⟩ (fun a103 h103 => ?_); clear h101
        refine d1 9 h103 rfl rfl (op_new (v := fun N => .slice (some ⟨N, 0, none⟩) 1 1) (T := 61) (cs := #[.int .i64 y99.boot, .int .i64 y99.stream, .int .i64 y99.seq, .int .i64 y99.ab, .int .i64 y99.ast, .int .i64 y99.asq, .bool y99.has, .string y99.body]) (by kernel_rfl) (by kernel_rfl) (by kernel_rfl)) ?_ ?_; clear h103
        ·
         rintro _ w105 ⟨N106, rfl, hN109, hz110, hk108, hg107⟩
         have ha111 := row_fresh hr92 hN109
         have hu112 := row_under hr92 hN109
         have hr114 := row_kept_new hf46 hg86
         have ha113 := row_fresh hr114 hN109
         have hu115 := row_under hr114 hN109
         have hr117 := row_kept_new hf47 hg86
         have ha116 := row_fresh hr117 hN109
         have hu118 := row_under hr117 hN109
         have hz119 := hg107.size
         have hO121 := LkP.gr hf43 hg86 (fun k e => by cases e)
         have ho120 := off_new (LkP.ofS hO121) hN109
         have hO123 := LkP.gr hf44 hg86 (fun k e => by cases e)
         have ho122 := off_new (LkP.ofS hO123) hN109
         have hB124 := fbU_new hB91 hg107
         have hr125 := row_kept_new hr92 hg107
         exact ⟨hB124, hr125⟩
        rintro _ w105 a104 ⟨N106, rfl, hN109, hz110, hk108, hg107⟩ h104
        have ha111 := row_fresh hr92 hN109
        have hu112 := row_under hr92 hN109
        have hr114 := row_kept_new hf46 hg86
        have ha113 := row_fresh hr114 hN109
        have hu115 := row_under hr114 hN109
        have hr117 := row_kept_new hf47 hg86
        have ha116 := row_fresh hr117 hN109
        have hu118 := row_under hr117 hN109
        have hz119 := hg107.size
        have hO121 := LkP.gr hf43 hg86 (fun k e => by cases e)
        have ho120 := off_new (LkP.ofS hO121) hN109
        have hO123 := LkP.gr hf44 hg86 (fun k e => by cases e)
        have ho122 := off_new (LkP.ofS hO123) hN109
        try dsimp only at h104
        have hB124 := fbU_new hB91 hg107
        have hr125 := row_kept_new hr92 hg107
        have hr132 := row_kept_new hr114 hg107
        refine d1 10 h104 rfl rfl (op_appendF rfl 0 61 (z := .agg #[.int .i64 0, .int .i64 0, .int .i64 0, .int .i64 0, .int .i64 0, .int .i64 0, .bool false, .string (⟨#[]⟩)]) (size := 8) (bytes := 72) Try.underlying67 (by kernel_rfl) rfl rfl rfl hr132 rfl hk108 rfl (by kernel_rfl) (by first | omega | (simp only [List.length_nil, List.length_append, List.length_cons, List.length_take, List.length_drop]; omega)) (by first | omega | (simp only [List.length_nil, List.length_append, List.length_cons, List.length_take, List.length_drop]; omega)) (by omega)) ?_ ?_; clear h104
        ·
         rintro v128 w127 ⟨hr129, hwt131, hg130⟩
         have hr129' : w127.ownsRow 0 61 8 v128 (((P.W ++ (outT P.A g).take k) ++ [(SegT.mk y99.boot y99.stream y99.seq y99.ab y99.ast y99.asq y99.has y99.body)]).length) (((P.W ++ (outT P.A g).take k) ++ [(SegT.mk y99.boot y99.stream y99.seq y99.ab y99.ast y99.asq y99.has y99.body)]).flatMap segE) := row_push (y := (SegT.mk y99.boot y99.stream y99.seq y99.ab y99.ast y99.asq y99.has y99.body)) hr129 rfl rfl; clear hr129
         have hO135 := LkP.gr hO121 hg107 (fun k e => by cases e)
         have ho134 := LkP.ofS hO135
         have ho133 := offR_went hofwA ho134 hwt131
         have hO138 := LkP.gr hO123 hg107 (fun k e => by cases e)
         have ho137 := LkP.ofS hO138
         have ho136 := offR_went hofwB ho137 hwt131
         have hra139 := ap_went hr125 hrak hwt131
         have hz140 := hg130.size
         have hB141 := fbU_row hB124 hik hg130
         have hr142 := row_kept_off hr125 hrak hg130
         exact ⟨hB141, hr142⟩
        rintro v128 w127 a126 ⟨hr129, hwt131, hg130⟩ h126
        have hr129' : w127.ownsRow 0 61 8 v128 (((P.W ++ (outT P.A g).take k) ++ [(SegT.mk y99.boot y99.stream y99.seq y99.ab y99.ast y99.asq y99.has y99.body)]).length) (((P.W ++ (outT P.A g).take k) ++ [(SegT.mk y99.boot y99.stream y99.seq y99.ab y99.ast y99.asq y99.has y99.body)]).flatMap segE) := row_push (y := (SegT.mk y99.boot y99.stream y99.seq y99.ab y99.ast y99.asq y99.has y99.body)) hr129 rfl rfl; clear hr129
        have hO135 := LkP.gr hO121 hg107 (fun k e => by cases e)
        have ho134 := LkP.ofS hO135
        have ho133 := offR_went hofwA ho134 hwt131
        have hO138 := LkP.gr hO123 hg107 (fun k e => by cases e)
        have ho137 := LkP.ofS hO138
        have ho136 := offR_went hofwB ho137 hwt131
        have hra139 := ap_went hr125 hrak hwt131
        have hz140 := hg130.size
        have hB141 := fbU_row hB124 hik hg130
        have hr142 := row_kept_off hr125 hrak hg130
        refine dk0 11 (v := pt b 0) h126 rfl rfl ⟨hB141, hr142⟩ fun a143 h143 => ?_; clear h126
        refine dk0 12 (v := pt b 4) h143 rfl rfl ⟨hB141, hr142⟩ fun a144 h144 => ?_; clear h143
        have hk150 := hk102.kept hg107 (by simp)
        have hk151 := hk150.kept hg130 (own_neT hr132 hk150 (by decide))
        refine d1D 13 h144 rfl rfl (op_store1 rfl rfl rfl (row_one hr129') Try.sizeOf67 hk151 rfl) ?_ ?_; clear h144
        ·
         rintro _ w146 ⟨hk147, hz148, hg149⟩
         have hk147' : Blk w146 b 95 #[pt NA 0, pt NB 0, .int .i64 P.b0, .int .i64 P.b1, v128, tk, .int .i64 P.s0, .int .i64 P.s1, .int .i64 P.t0, .int .i64 P.t1, .bool true] := hk147; clear hk147
         have hz152 := hg149.size
         have hB153 := fbU_at hB141 hg149 (fun hlt => by rcases hSb with hq | hq; exact hq; omega)
         have hr154 := row_kept_at hr142 hg149 (own_neT hr142 hk151 (by decide))
         exact ⟨hB153, hr154⟩
        rintro _ w146 a145 ⟨hk147, hz148, hg149⟩ h145
        have hk147' : Blk w146 b 95 #[pt NA 0, pt NB 0, .int .i64 P.b0, .int .i64 P.b1, v128, tk, .int .i64 P.s0, .int .i64 P.s1, .int .i64 P.t0, .int .i64 P.t1, .bool true] := hk147; clear hk147
        have hz152 := hg149.size
        refine dr_done (by kernel_rfl) ?_
        refine co_then ?_
        refine co_reg ?_
        refine pk0 (v := pt b 0) h145 rfl fun a153 h153 => ?_; clear h145
        refine pk0 (v := pt b 0) h153 rfl fun a154 h154 => ?_; clear h153
        refine pk0 (v := pt b 0) h154 rfl fun a155 h155 => ?_; clear h154
        refine pk0 (v := pt b 5) h155 rfl fun a156 h156 => ?_; clear h155
        refine pk (v := tk) h156 rfl (rn_load1 rfl rfl Try.isAgg93 (hk147'.cell rfl)) fun a157 h157 => ?_; clear h156
        refine pk0 (v := .int .i64 0) h157 rfl fun a158 h158 => ?_; clear h157
        refine pk0 (v := .int .i64 1) h158 rfl fun a159 h159 => ?_; clear h158
        refine pw h159 rfl (op_new (v := fun N => .slice (some ⟨N, 0, none⟩) 1 1) (T := 3) (cs := #[.int .i64 1]) (by kernel_rfl) (by kernel_rfl) (by kernel_rfl)) ?_; clear h159
        rintro _ w161 a160 ⟨N162, rfl, hN165, hz166, hk164, hg163⟩ h160
        have hr168 := row_kept_at hr142 hg149 (own_neT hr142 hk151 (by decide))
        have ha167 := row_fresh hr168 hN165
        have hu169 := row_under hr168 hN165
        have hr171 := row_kept_new hr117 hg107
        have hr172 := row_kept_row hr171 hr132 hg130 (by decide)
        have hr173 := row_kept_at hr172 hg149 (own_neT hr172 hk151 (by decide))
        have ha170 := row_fresh hr173 hN165
        have hu174 := row_under hr173 hN165
        have hr176 := row_kept_at hr129' hg149 (own_neT hr129' hk151 (by decide))
        have ha175 := row_fresh hr176 hN165
        have hu177 := row_under hr176 hN165
        have hz178 := hg163.size
        have hO180 := LkP.gr hO135 hg130 (fun k e => hofwA k e)
        have hO181 := LkP.gr hO180 hg149 (fun k e => by cases e; exact (Grew.off hx15 hQ.nA hBk.lt))
        have ho179 := off_new (LkP.ofS hO181) hN165
        have hO183 := LkP.gr hO138 hg130 (fun k e => hofwB k e)
        have hO184 := LkP.gr hO183 hg149 (fun k e => by cases e; exact hQ.nB)
        have ho182 := off_new (LkP.ofS hO184) hN165
        try dsimp only at h160
        have hr191 := row_kept_new hr173 hg163
        refine pw h160 rfl (op_appendF rfl 0 3 (z := .int .i64 0) (size := 1) (bytes := 8) Try.underlying93 (by kernel_rfl) rfl rfl rfl hr191 rfl hk164 rfl (by kernel_rfl) (by first | omega | (simp only [List.length_nil, List.length_append, List.length_cons, List.length_take, List.length_drop]; omega)) (by first | omega | (simp only [List.length_nil, List.length_append, List.length_cons, List.length_take, List.length_drop]; omega)) (by omega)) ?_; clear h160
        rintro v187 w186 a185 ⟨hr188, hwt190, hg189⟩ h185
        have hr188' : w186.ownsRow 0 3 1 v187 (((P.T ++ List.replicate k 1) ++ [1]).length) (((P.T ++ List.replicate k 1) ++ [1]).flatMap (intE .i64)) := row_push (y := 1) hr188 rfl rfl; clear hr188
        have hB194 := fbU_at hB141 hg149 (fun hlt => by rcases hSb with hq | hq; exact hq; omega)
        have hB195 := fbU_new hB194 hg163
        have hk196 := hk108.kept hg130 (ha113)
        have hk197 := hk196.kept hg149 (by simp; omega)
        have hk198 := hk197.kept hg163 (by simp)
        have hO199 := LkP.gr hO181 hg163 (fun k e => by cases e)
        have ho193 := LkP.ofS hO199
        have ho192 := offR_went hoftA ho193 hwt190
        have hO202 := LkP.gr hO184 hg163 (fun k e => by cases e)
        have ho201 := LkP.ofS hO202
        have ho200 := offR_went hoftB ho201 hwt190
        have hz203 := hg189.size
        refine pk0 (v := pt b 0) h185 rfl fun a204 h204 => ?_; clear h185
        refine pk0 (v := pt b 5) h204 rfl fun a205 h205 => ?_; clear h204
        have hk211 := hk147'.kept hg163 (by simp)
        have hk212 := hk211.kept hg189 (own_neT hr191 hk211 (by decide))
        refine pwD h205 rfl (op_store1 rfl rfl rfl (row_one hr188') Try.sizeOf93 hk212 rfl) ?_; clear h205
        rintro _ w207 a206 ⟨hk208, hz209, hg210⟩ h206
        have hk208' : Blk w207 b 95 #[pt NA 0, pt NB 0, .int .i64 P.b0, .int .i64 P.b1, v128, v187, .int .i64 P.s0, .int .i64 P.s1, .int .i64 P.t0, .int .i64 P.t1, .bool true] := hk208; clear hk208
        have hz213 := hg210.size
        refine pl_nil ?_
        refine co_blockN ?_
        refine co_then ?_
        refine co_reg ?_
        refine pk0 (v := .int .i64 ((k : Nat) : Int)) h206 rfl fun a214 h214 => ?_; clear h206
        refine pk (v := .int .i64 ((k + 1 : Nat) : Int)) h214 rfl (rn_arith' rfl rfl rfl rfl rfl rfl (IntWalk.i64_in _ (by omega)) (by omega)) fun a215 h215 => ?_; clear h214
        refine pk0 (v := .int .i64 ((k + 1 : Nat) : Int)) h215 rfl fun a216 h216 => ?_; clear h215
        refine pl_nil ?_
        refine co_then ?_
        refine ⟨((outT P.A g).length - (k + 1)), by omega, ?_⟩
        have hiw9 : InS S w.heap.size v128 := (hik.went hwt131 (by omega))
        have hit9 : InS S w.heap.size v187 := (htk.went hwt190 (by omega))
        have hra9 : ∀ i, Value.ownBlock v12 = some i → Value.ownBlock v128 ≠ some i := hra139
        have howA9 : ∀ i, Value.ownBlock v128 = some i → ¬ S13 i := ho133
        have hotA9 : ∀ i, Value.ownBlock v187 = some i → ¬ S13 i := ho192
        have howB9 : ∀ i, Value.ownBlock v128 = some i → ¬ SB i := ho136
        have hotB9 : ∀ i, Value.ownBlock v187 = some i → ¬ SB i := ho200
        have hO217 := LkP.gr hO199 hg189 (fun k e => hoftA k e)
        have hO218 := LkP.gr hO217 hg210 (fun k e => by cases e; exact (Grew.off hx15 hQ.nA hBk.lt))
        have hO219 := LkP.gr hO202 hg189 (fun k e => hoftB k e)
        have hO220 := LkP.gr hO219 hg210 (fun k e => by cases e; exact hQ.nB)
        have hr221 := row_kept_new hr168 hg163
        have hr222 := row_kept_row hr221 hr191 hg189 (by decide)
        have hr223 := row_kept_at hr222 hg210 (own_neT hr222 hk212 (by decide))
        have hr224 := row_kept_new hr176 hg163
        have hr225 := row_kept_row hr224 hr191 hg189 (by decide)
        have hr226 := row_kept_at hr225 hg210 (own_neT hr225 hk212 (by decide))
        have hr227 := row_kept_at hr188' hg210 (own_neT hr188' hk212 (by decide))
        have hB228 := fbU_row hB195 htk hg189
        have hB229 := fbU_at hB228 hg210 (fun hlt => by rcases hSb with hq | hq; exact hq; omega)
        exact ⟨k + 1, v128, v187, h216.sub ⟨rfl, rfl, rfl, rfl, trivial⟩, rfl, by omega, by omega, by exact hiw9, by exact hit9, by exact howA9, by exact hotA9, by exact howB9, by exact hotB9, by exact hra9, hk208', hO218, hO220, hr223, (row_eq hr226 (by first | (simp; done) | exact take_push (by assumption))), (row_eq hr227 (by first | (simp; done) | exact rep_push)), hB229⟩
       ·
        refine dr_op (i := 9) h101 rfl rfl rfl rfl (op_new (v := fun N => .slice (some ⟨N, 0, none⟩) 1 1) (T := 61) (cs := #[.int .i64 y99.boot, .int .i64 y99.stream, .int .i64 y99.seq, .int .i64 y99.ab, .int .i64 y99.ast, .int .i64 y99.asq, .bool y99.has, .string y99.body]) (by kernel_rfl) (by kernel_rfl) (by kernel_rfl)) ?_ ?_; clear h101
        ·
         rintro _ w231 ⟨N232, rfl, hN235, hz236, hk234, hg233⟩
         have ha237 := row_fresh hr92 hN235
         have hu238 := row_under hr92 hN235
         have hr240 := row_kept_new hf46 hg86
         have ha239 := row_fresh hr240 hN235
         have hu241 := row_under hr240 hN235
         have hr243 := row_kept_new hf47 hg86
         have ha242 := row_fresh hr243 hN235
         have hu244 := row_under hr243 hN235
         have hz245 := hg233.size
         have hO247 := LkP.gr hf43 hg86 (fun k e => by cases e)
         have ho246 := off_new (LkP.ofS hO247) hN235
         have hO249 := LkP.gr hf44 hg86 (fun k e => by cases e)
         have ho248 := off_new (LkP.ofS hO249) hN235
         have hB250 := fbU_new hB91 hg233
         have hr251 := row_kept_new hr92 hg233
         exact ⟨hB250, hr251⟩
        rintro _ w231 a230 ⟨N232, rfl, hN235, hz236, hk234, hg233⟩ h230
        have ha237 := row_fresh hr92 hN235
        have hu238 := row_under hr92 hN235
        have hr240 := row_kept_new hf46 hg86
        have ha239 := row_fresh hr240 hN235
        have hu241 := row_under hr240 hN235
        have hr243 := row_kept_new hf47 hg86
        have ha242 := row_fresh hr243 hN235
        have hu244 := row_under hr243 hN235
        have hz245 := hg233.size
        have hO247 := LkP.gr hf43 hg86 (fun k e => by cases e)
        have ho246 := off_new (LkP.ofS hO247) hN235
        have hO249 := LkP.gr hf44 hg86 (fun k e => by cases e)
        have ho248 := off_new (LkP.ofS hO249) hN235
        try dsimp only at h230
        have hB250 := fbU_new hB91 hg233
        have hr251 := row_kept_new hr92 hg233
        refine dr_many [4] (by kernel_rfl) (by simp) ⟨?_, trivial⟩
        ·
         have hk252 := hf42.kept hg86 (by simp)
         have hk253 := hk252.kept hg233 (by simp)
         refine dr_opVal (i := 4) (v := wk) h230 rfl rfl rfl rfl (by kernel_rfl) rfl (rn_load1 rfl rfl Try.isAgg67 (hk253.cell rfl)) ⟨hB250, hr251⟩ (fun a254 h254 => ?_); clear h230
         have hr261 := row_kept_new hr240 hg233
         refine d1 10 h254 rfl rfl (op_appendF rfl 0 61 (z := .agg #[.int .i64 0, .int .i64 0, .int .i64 0, .int .i64 0, .int .i64 0, .int .i64 0, .bool false, .string (⟨#[]⟩)]) (size := 8) (bytes := 72) Try.underlying67 (by kernel_rfl) rfl rfl rfl hr261 rfl hk234 rfl (by kernel_rfl) (by first | omega | (simp only [List.length_nil, List.length_append, List.length_cons, List.length_take, List.length_drop]; omega)) (by first | omega | (simp only [List.length_nil, List.length_append, List.length_cons, List.length_take, List.length_drop]; omega)) (by omega)) ?_ ?_; clear h254
         ·
          rintro v257 w256 ⟨hr258, hwt260, hg259⟩
          have hr258' : w256.ownsRow 0 61 8 v257 (((P.W ++ (outT P.A g).take k) ++ [(SegT.mk y99.boot y99.stream y99.seq y99.ab y99.ast y99.asq y99.has y99.body)]).length) (((P.W ++ (outT P.A g).take k) ++ [(SegT.mk y99.boot y99.stream y99.seq y99.ab y99.ast y99.asq y99.has y99.body)]).flatMap segE) := row_push (y := (SegT.mk y99.boot y99.stream y99.seq y99.ab y99.ast y99.asq y99.has y99.body)) hr258 rfl rfl; clear hr258
          have hO264 := LkP.gr hO247 hg233 (fun k e => by cases e)
          have ho263 := LkP.ofS hO264
          have ho262 := offR_went hofwA ho263 hwt260
          have hO267 := LkP.gr hO249 hg233 (fun k e => by cases e)
          have ho266 := LkP.ofS hO267
          have ho265 := offR_went hofwB ho266 hwt260
          have hra268 := ap_went hr251 hrak hwt260
          have hz269 := hg259.size
          have hB270 := fbU_row hB250 hik hg259
          have hr271 := row_kept_off hr251 hrak hg259
          exact ⟨hB270, hr271⟩
         rintro v257 w256 a255 ⟨hr258, hwt260, hg259⟩ h255
         have hr258' : w256.ownsRow 0 61 8 v257 (((P.W ++ (outT P.A g).take k) ++ [(SegT.mk y99.boot y99.stream y99.seq y99.ab y99.ast y99.asq y99.has y99.body)]).length) (((P.W ++ (outT P.A g).take k) ++ [(SegT.mk y99.boot y99.stream y99.seq y99.ab y99.ast y99.asq y99.has y99.body)]).flatMap segE) := row_push (y := (SegT.mk y99.boot y99.stream y99.seq y99.ab y99.ast y99.asq y99.has y99.body)) hr258 rfl rfl; clear hr258
         have hO264 := LkP.gr hO247 hg233 (fun k e => by cases e)
         have ho263 := LkP.ofS hO264
         have ho262 := offR_went hofwA ho263 hwt260
         have hO267 := LkP.gr hO249 hg233 (fun k e => by cases e)
         have ho266 := LkP.ofS hO267
         have ho265 := offR_went hofwB ho266 hwt260
         have hra268 := ap_went hr251 hrak hwt260
         have hz269 := hg259.size
         have hB270 := fbU_row hB250 hik hg259
         have hr271 := row_kept_off hr251 hrak hg259
         refine dk0 11 (v := pt b 0) h255 rfl rfl ⟨hB270, hr271⟩ fun a272 h272 => ?_; clear h255
         refine dk0 12 (v := pt b 4) h272 rfl rfl ⟨hB270, hr271⟩ fun a273 h273 => ?_; clear h272
         have hk279 := hk253.kept hg259 (own_neT hr261 hk253 (by decide))
         refine d1D 13 h273 rfl rfl (op_store1 rfl rfl rfl (row_one hr258') Try.sizeOf67 hk279 rfl) ?_ ?_; clear h273
         ·
          rintro _ w275 ⟨hk276, hz277, hg278⟩
          have hk276' : Blk w275 b 95 #[pt NA 0, pt NB 0, .int .i64 P.b0, .int .i64 P.b1, v257, tk, .int .i64 P.s0, .int .i64 P.s1, .int .i64 P.t0, .int .i64 P.t1, .bool true] := hk276; clear hk276
          have hz280 := hg278.size
          have hB281 := fbU_at hB270 hg278 (fun hlt => by rcases hSb with hq | hq; exact hq; omega)
          have hr282 := row_kept_at hr271 hg278 (own_neT hr271 hk279 (by decide))
          exact ⟨hB281, hr282⟩
         rintro _ w275 a274 ⟨hk276, hz277, hg278⟩ h274
         have hk276' : Blk w275 b 95 #[pt NA 0, pt NB 0, .int .i64 P.b0, .int .i64 P.b1, v257, tk, .int .i64 P.s0, .int .i64 P.s1, .int .i64 P.t0, .int .i64 P.t1, .bool true] := hk276; clear hk276
         have hz280 := hg278.size
         refine dr_done (by kernel_rfl) ?_
         refine co_then ?_
         refine co_reg ?_
         refine pk0 (v := pt b 0) h274 rfl fun a281 h281 => ?_; clear h274
         refine pk0 (v := pt b 0) h281 rfl fun a282 h282 => ?_; clear h281
         refine pk0 (v := pt b 0) h282 rfl fun a283 h283 => ?_; clear h282
         refine pk0 (v := pt b 5) h283 rfl fun a284 h284 => ?_; clear h283
         refine pk (v := tk) h284 rfl (rn_load1 rfl rfl Try.isAgg93 (hk276'.cell rfl)) fun a285 h285 => ?_; clear h284
         refine pk0 (v := .int .i64 0) h285 rfl fun a286 h286 => ?_; clear h285
         refine pk0 (v := .int .i64 1) h286 rfl fun a287 h287 => ?_; clear h286
         refine pw h287 rfl (op_new (v := fun N => .slice (some ⟨N, 0, none⟩) 1 1) (T := 3) (cs := #[.int .i64 1]) (by kernel_rfl) (by kernel_rfl) (by kernel_rfl)) ?_; clear h287
         rintro _ w289 a288 ⟨N290, rfl, hN293, hz294, hk292, hg291⟩ h288
         have hr296 := row_kept_at hr271 hg278 (own_neT hr271 hk279 (by decide))
         have ha295 := row_fresh hr296 hN293
         have hu297 := row_under hr296 hN293
         have hr299 := row_kept_new hr243 hg233
         have hr300 := row_kept_row hr299 hr261 hg259 (by decide)
         have hr301 := row_kept_at hr300 hg278 (own_neT hr300 hk279 (by decide))
         have ha298 := row_fresh hr301 hN293
         have hu302 := row_under hr301 hN293
         have hr304 := row_kept_at hr258' hg278 (own_neT hr258' hk279 (by decide))
         have ha303 := row_fresh hr304 hN293
         have hu305 := row_under hr304 hN293
         have hz306 := hg291.size
         have hO308 := LkP.gr hO264 hg259 (fun k e => hofwA k e)
         have hO309 := LkP.gr hO308 hg278 (fun k e => by cases e; exact (Grew.off hx15 hQ.nA hBk.lt))
         have ho307 := off_new (LkP.ofS hO309) hN293
         have hO311 := LkP.gr hO267 hg259 (fun k e => hofwB k e)
         have hO312 := LkP.gr hO311 hg278 (fun k e => by cases e; exact hQ.nB)
         have ho310 := off_new (LkP.ofS hO312) hN293
         try dsimp only at h288
         have hr319 := row_kept_new hr301 hg291
         refine pw h288 rfl (op_appendF rfl 0 3 (z := .int .i64 0) (size := 1) (bytes := 8) Try.underlying93 (by kernel_rfl) rfl rfl rfl hr319 rfl hk292 rfl (by kernel_rfl) (by first | omega | (simp only [List.length_nil, List.length_append, List.length_cons, List.length_take, List.length_drop]; omega)) (by first | omega | (simp only [List.length_nil, List.length_append, List.length_cons, List.length_take, List.length_drop]; omega)) (by omega)) ?_; clear h288
         rintro v315 w314 a313 ⟨hr316, hwt318, hg317⟩ h313
         have hr316' : w314.ownsRow 0 3 1 v315 (((P.T ++ List.replicate k 1) ++ [1]).length) (((P.T ++ List.replicate k 1) ++ [1]).flatMap (intE .i64)) := row_push (y := 1) hr316 rfl rfl; clear hr316
         have hB322 := fbU_at hB270 hg278 (fun hlt => by rcases hSb with hq | hq; exact hq; omega)
         have hB323 := fbU_new hB322 hg291
         have hk324 := hk234.kept hg259 (ha239)
         have hk325 := hk324.kept hg278 (by simp; omega)
         have hk326 := hk325.kept hg291 (by simp)
         have hO327 := LkP.gr hO309 hg291 (fun k e => by cases e)
         have ho321 := LkP.ofS hO327
         have ho320 := offR_went hoftA ho321 hwt318
         have hO330 := LkP.gr hO312 hg291 (fun k e => by cases e)
         have ho329 := LkP.ofS hO330
         have ho328 := offR_went hoftB ho329 hwt318
         have hz331 := hg317.size
         refine pk0 (v := pt b 0) h313 rfl fun a332 h332 => ?_; clear h313
         refine pk0 (v := pt b 5) h332 rfl fun a333 h333 => ?_; clear h332
         have hk339 := hk276'.kept hg291 (by simp)
         have hk340 := hk339.kept hg317 (own_neT hr319 hk339 (by decide))
         refine pwD h333 rfl (op_store1 rfl rfl rfl (row_one hr316') Try.sizeOf93 hk340 rfl) ?_; clear h333
         rintro _ w335 a334 ⟨hk336, hz337, hg338⟩ h334
         have hk336' : Blk w335 b 95 #[pt NA 0, pt NB 0, .int .i64 P.b0, .int .i64 P.b1, v257, v315, .int .i64 P.s0, .int .i64 P.s1, .int .i64 P.t0, .int .i64 P.t1, .bool true] := hk336; clear hk336
         have hz341 := hg338.size
         refine pl_nil ?_
         refine co_blockN ?_
         refine co_then ?_
         refine co_reg ?_
         refine pk0 (v := .int .i64 ((k : Nat) : Int)) h334 rfl fun a342 h342 => ?_; clear h334
         refine pk (v := .int .i64 ((k + 1 : Nat) : Int)) h342 rfl (rn_arith' rfl rfl rfl rfl rfl rfl (IntWalk.i64_in _ (by omega)) (by omega)) fun a343 h343 => ?_; clear h342
         refine pk0 (v := .int .i64 ((k + 1 : Nat) : Int)) h343 rfl fun a344 h344 => ?_; clear h343
         refine pl_nil ?_
         refine co_then ?_
         refine ⟨((outT P.A g).length - (k + 1)), by omega, ?_⟩
         have hiw9 : InS S w.heap.size v257 := (hik.went hwt260 (by omega))
         have hit9 : InS S w.heap.size v315 := (htk.went hwt318 (by omega))
         have hra9 : ∀ i, Value.ownBlock v12 = some i → Value.ownBlock v257 ≠ some i := hra268
         have howA9 : ∀ i, Value.ownBlock v257 = some i → ¬ S13 i := ho262
         have hotA9 : ∀ i, Value.ownBlock v315 = some i → ¬ S13 i := ho320
         have howB9 : ∀ i, Value.ownBlock v257 = some i → ¬ SB i := ho265
         have hotB9 : ∀ i, Value.ownBlock v315 = some i → ¬ SB i := ho328
         have hO345 := LkP.gr hO327 hg317 (fun k e => hoftA k e)
         have hO346 := LkP.gr hO345 hg338 (fun k e => by cases e; exact (Grew.off hx15 hQ.nA hBk.lt))
         have hO347 := LkP.gr hO330 hg317 (fun k e => hoftB k e)
         have hO348 := LkP.gr hO347 hg338 (fun k e => by cases e; exact hQ.nB)
         have hr349 := row_kept_new hr296 hg291
         have hr350 := row_kept_row hr349 hr319 hg317 (by decide)
         have hr351 := row_kept_at hr350 hg338 (own_neT hr350 hk340 (by decide))
         have hr352 := row_kept_new hr304 hg291
         have hr353 := row_kept_row hr352 hr319 hg317 (by decide)
         have hr354 := row_kept_at hr353 hg338 (own_neT hr353 hk340 (by decide))
         have hr355 := row_kept_at hr316' hg338 (own_neT hr316' hk340 (by decide))
         have hB356 := fbU_row hB323 htk hg317
         have hB357 := fbU_at hB356 hg338 (fun hlt => by rcases hSb with hq | hq; exact hq; omega)
         exact ⟨k + 1, v257, v315, h344.sub ⟨rfl, rfl, rfl, rfl, trivial⟩, rfl, by omega, by omega, by exact hiw9, by exact hit9, by exact howA9, by exact hotA9, by exact howB9, by exact hotB9, by exact hra9, hk336', hO346, hO348, hr351, (row_eq hr354 (by first | (simp; done) | exact take_push (by assumption))), (row_eq hr355 (by first | (simp; done) | exact rep_push)), hB357⟩
 · skip
   obtain ⟨NA, NB, SA, SB, wv, tv, hQ⟩ := hP
   have hBk : Blk w b 95 #[pt NA 0, pt NB 0, .int .i64 P.b0, .int .i64 P.b1, wv, tv, .int .i64 P.s0, .int .i64 P.s1, .int .i64 P.t0, .int .i64 P.t1, .bool true] := hQ.blk
   have hl_b := hBk.lt
   have hSb : S b ∨ w.heap.size ≤ b := .inl ((hQ.fp b).2 (.inl rfl))
   have hinA : ∀ q, SA q → S q ∨ w.heap.size ≤ q := fun q h => .inl ((hQ.fp q).2 (.inr (.inl h)))
   have hinB : ∀ q, SB q → S q ∨ w.heap.size ≤ q := fun q h => .inl ((hQ.fp q).2 (.inr (.inr (.inl h))))
   have hinw : InS S w.heap.size wv := InS.of (fun i hi => (hQ.fp i).2 (.inr (.inr (.inr (.inl hi)))))
   have hint : InS S w.heap.size tv := InS.of (fun i hi => (hQ.fp i).2 (.inr (.inr (.inr (.inr hi)))))
   have hW0 := hQ.way
   have hT0 := hQ.to
   refine co_enter (n := 58) Try.func50 rfl rfl rfl [(0, pt b 0), (1, .int .i64 1), (2, .bool g)] rfl (fun a h0 => ?_)
   refine co_seq ?_
   refine co_reg ?_
   refine pk0 (v := pt b 0) h0 rfl fun a358 h358 => ?_; clear h0
   refine pk0 (v := .int .i64 1) h358 rfl fun a359 h359 => ?_; clear h358
   refine pk0 (v := pt b 0) h359 rfl fun a360 h360 => ?_; clear h359
   refine pk0 (v := pt b 0) h360 rfl fun a361 h361 => ?_; clear h360
   refine pk0 (v := pt b 1) h361 rfl fun a362 h362 => ?_; clear h361
   refine pk (v := pt NB 0) h362 rfl (rn_load1 rfl rfl Try.isAgg53 (hBk.cell rfl)) fun a363 h363 => ?_; clear h362
   refine pk0 (v := .bool g) h363 rfl fun a364 h364 => ?_; clear h363
   have ho367 := LkP.ofS hQ.hA
   have ho368 := LkP.ofS hQ.hB
   have hlt_wv : ∀ i, Value.ownBlock wv = some i → i < w.heap.size := fun i hi => (hW0.lt i hi).2
   have hlt_tv : ∀ i, Value.ownBlock tv = some i → i < w.heap.size := fun i hi => (hT0.lt i hi).2
   have hltb := Blk.lt hBk
   refine pw h364 rfl (op_call (args := #[pt NB 0, .bool g]) (R := fun res xw => ∃ v : Value, ∃ S' : Nat → Prop, res = v ∧ LkP S' xw NB (outN P.B) ∧ (xw.ownsRow w.heap.size 61 8 v (outT P.B g).length ((outT P.B g).flatMap segE)) ∧ (∀ q, S' q → q < w.heap.size) ∧ Grew SB S' w xw) rfl rfl rfl (by kernel_rfl) (by kernel_rfl) (Try.call37 _ _) (kOut w g hQ.hB) (by rintro e x ⟨v, S', h0, h⟩; exact ⟨_, h0, v, S', rfl, h⟩)) ?_; clear h364
   rintro v369 w366 a365 ⟨_, S370, rfl, hO371, hq373, hq374, hx372⟩ h365
   have hB375 := fbU_foot hB0 hx372.but (fun i hi hq => by rcases hinB i hq with k | k; exact k; omega)
   have hz376 := hB375.size
   have hz377 := hx372.but.size
   have hge : ∀ i, Value.ownBlock v369 = some i → w.heap.size ≤ i := fun i hi => (hq373.lt i hi).1
   have hbody := outT_body hQ.hB.ok g
   have hl378 := outT_len P.B g
   have hrap : ∀ i, Value.ownBlock v369 = some i → Value.ownBlock wv ≠ some i := fun i hi h1 => by have e1 := hge i hi; have e2 := hlt_wv i h1; omega
   have hin379 : ∀ q, S370 q → S q ∨ w.heap.size ≤ q := fun q hq => by rcases hx372.sub q hq with k | k; exact hinB q k; exact .inr (by omega)
   refine pk0 (v := v369) h365 rfl fun a380 h380 => ?_; clear h365
   refine pl_nil ?_
   refine co_then ?_
   refine co_seq ?_
   refine co_reg ?_
   refine pk0 (v := .int .i64 0) h380 rfl fun a381 h381 => ?_; clear h380
   refine pl_nil ?_
   refine co_then ?_
   refine wp_block ?_
   have hiw9 : InS S w.heap.size wv := hinw
   have hit9 : InS S w.heap.size tv := hint
   have hra9 : ∀ i, Value.ownBlock v369 = some i → Value.ownBlock wv ≠ some i := hrap
   have howA9 : ∀ i, Value.ownBlock wv = some i → ¬ SA i := hQ.wA
   have hotA9 : ∀ i, Value.ownBlock tv = some i → ¬ SA i := hQ.tA
   have howB9 : ∀ i, Value.ownBlock wv = some i → ¬ S370 i := (Grew.offR hx372 hW0 hQ.wB)
   have hotB9 : ∀ i, Value.ownBlock tv = some i → ¬ S370 i := (Grew.offR hx372 hT0 hQ.tB)
   have h382 : Slots 58 [(0, pt b 0), (1, .int .i64 1), (6, v369), (7, .int .i64 0)] _ := h381.sub ⟨rfl, rfl, rfl, rfl, trivial⟩; clear h381
   refine co_loop (fun mm a x => ∃ (k : Nat) (wk : Value) (tk : Value), Slots 58 [(0, pt b 0), (1, .int .i64 1), (6, v369), (7, .int .i64 ((k : Nat) : Int))] a ∧ mm = (outT P.B g).length - k ∧ (k ≤ (outT P.B g).length) ∧ (P.W.length + k ≤ 200) ∧ (InS S w.heap.size wk) ∧ (InS S w.heap.size tk) ∧ (∀ i, Value.ownBlock wk = some i → ¬ SA i) ∧ (∀ i, Value.ownBlock tk = some i → ¬ SA i) ∧ (∀ i, Value.ownBlock wk = some i → ¬ S370 i) ∧ (∀ i, Value.ownBlock tk = some i → ¬ S370 i) ∧ (∀ i, Value.ownBlock v369 = some i → Value.ownBlock wk ≠ some i) ∧ Blk x b 95 #[pt NA 0, pt NB 0, .int .i64 P.b0, .int .i64 P.b1, wk, tk, .int .i64 P.s0, .int .i64 P.s1, .int .i64 P.t0, .int .i64 P.t1, .bool true] ∧ LkP SA x NA P.A ∧ LkP S370 x NB (outN P.B) ∧ x.ownsRow w.heap.size 61 8 v369 (outT P.B g).length ((outT P.B g).flatMap segE) ∧ x.ownsRow 0 61 8 wk (P.W ++ (outT P.B g).take k).length ((P.W ++ (outT P.B g).take k).flatMap segE) ∧ x.ownsRow 0 3 1 tk (P.T ++ List.replicate k 0).length ((P.T ++ List.replicate k 0).flatMap (intE .i64)) ∧ But (S) w x) ((outT P.B g).length - 0) ?_ ?_
   have hk383 := Blk.butS hBk hx372.but hQ.nB
   have hO384 := LkP.but hQ.hA hx372.but hQ.ap
   have hr385 := own_butS hW0 hx372.but hQ.wB
   have hr386 := own_butS hT0 hx372.but hQ.tB
   · exact ⟨0, wv, tv, h382.sub ⟨rfl, rfl, rfl, (slot_eq rfl (congrArg (Value.int .i64) (by first | rfl | omega))), trivial⟩, rfl, by omega, by omega, by exact hiw9, by exact hit9, by exact howA9, by exact hotA9, by exact howB9, by exact hotB9, by exact hra9, hk383, hO384, hO371, hq373, (row_eq hr385 (by first | (simp; done) | exact take_push (by assumption))), (row_eq hr386 (by first | (simp; done) | exact rep_push)), hB375⟩
   · rintro k387 a388 w389 ⟨k, wk, tk, h388, rfl, hi390, hi391, hi392, hi393, hi394, hi395, hi396, hi397, hi398, hf399, hf400, hf401, hf402, hf403, hf404, hB405⟩
     have hz406 := hB405.size
     have hl407 := hf399.lt
     have hrak : ∀ i, Value.ownBlock v369 = some i → Value.ownBlock wk ≠ some i := by assumption
     have hofwA : ∀ i, Value.ownBlock wk = some i → ¬ SA i := by assumption
     have hoftA : ∀ i, Value.ownBlock tk = some i → ¬ SA i := by assumption
     have hofwB : ∀ i, Value.ownBlock wk = some i → ¬ S370 i := by assumption
     have hoftB : ∀ i, Value.ownBlock tk = some i → ¬ S370 i := by assumption
     have hik : InS S w.heap.size wk := by assumption
     have htk : InS S w.heap.size tk := by assumption
     have hlw : (P.W ++ (outT P.B g).take k).length = P.W.length + k := by rw [List.length_append, List.length_take]; omega
     have hlt2 : (P.T ++ List.replicate k 0).length = P.T.length + k := by rw [List.length_append, List.length_replicate]
     refine co_seq ?_
     refine co_seq ?_
     refine co_reg ?_
     refine pk0 (v := .int .i64 ((k : Nat) : Int)) h388 rfl fun a408 h408 => ?_; clear h388
     refine pk0 (v := v369) h408 rfl fun a409 h409 => ?_; clear h408
     refine pk (v := .int .i64 (((outT P.B g).length : Nat) : Int)) h409 rfl (rn_lenOwn rfl rfl Try.underlying67 hf402) fun a410 h410 => ?_; clear h409
     refine pk0 (v := .bool (decide (((k : Nat) : Int) < (((outT P.B g).length : Nat) : Int)))) h410 rfl fun a411 h411 => ?_; clear h410
     refine pk0 (v := .bool (decide (((k : Nat) : Int) < (((outT P.B g).length : Nat) : Int)))) h411 rfl fun a412 h412 => ?_; clear h411
     cases hc413 : (decide (((k : Nat) : Int) < (((outT P.B g).length : Nat) : Int)))
     ·
      rw [hc413] at h412
      have hp414 : ¬ (((k : Nat) : Int) < (((outT P.B g).length : Nat) : Int)) := of_decide_eq_false hc413
      clear hc413
      refine psk h412 rfl fun a415 h415 => ?_; clear h412
      refine psk h415 rfl fun a416 h416 => ?_; clear h415
      refine pk0 (v := .bool false) h416 rfl fun a417 h417 => ?_; clear h416
      refine pk0 (v := .bool false) h417 rfl fun a418 h418 => ?_; clear h417
      refine psk h418 rfl fun a419 h419 => ?_; clear h418
      refine psk h419 rfl fun a420 h420 => ?_; clear h419
      refine psk h420 rfl fun a421 h421 => ?_; clear h420
      refine psk h421 rfl fun a422 h422 => ?_; clear h421
      refine psk h422 rfl fun a423 h423 => ?_; clear h422
      refine psk h423 rfl fun a424 h424 => ?_; clear h423
      refine pk0 (v := .bool false) h424 rfl fun a425 h425 => ?_; clear h424
      refine pl_nil ?_
      refine co_then ?_
      refine co_false h425 rfl ?_
      refine wp_exit ?_
      refine co_thenX ?_
      refine co_thenX ?_
      refine co_blockX ?_
      refine co_ret0n h425 rfl ?_
      obtain ⟨S9, h1, h2⟩ := PrO.fin (P := { P with B := outN P.B, W := P.W ++ (outT P.B g).take k, T := P.T ++ List.replicate k 0 }) (NA := NA) (NB := NB) (wv := wk) (tv := tk) (w := w) hf399 hf400 hf401 hf403 hf404 (ap_symm (Grew.ap hx372 (ap_symm hQ.ap) (LkP.ofS hQ.hA))) hQ.nA (Grew.off hx372 hQ.nB hBk.lt) hofwA hofwB hoftA hoftB hSb hinA hin379 hik htk hB405
      exact ⟨k, S9, rfl, by rw [if_neg (by decide)]; omega, by show (P.W ++ (outT P.B g).take k).length ≤ 200; omega, h1, h2, hB405⟩
     ·
      rw [hc413] at h412
      have hp426 : ((k : Nat) : Int) < (((outT P.B g).length : Nat) : Int) := of_decide_eq_true hc413
      clear hc413
      refine pk0 (v := .int .i64 ((k : Nat) : Int)) h412 rfl fun a427 h427 => ?_; clear h412
      refine pk0 (v := .bool (decide (((k : Nat) : Int) < 9))) h427 rfl fun a428 h428 => ?_; clear h427
      refine pk0 (v := .bool (decide (((k : Nat) : Int) < 9))) h428 rfl fun a429 h429 => ?_; clear h428
      refine pk0 (v := .bool (decide (((k : Nat) : Int) < 9))) h429 rfl fun a430 h430 => ?_; clear h429
      have hc431 : (decide (((k : Nat) : Int) < 9)) = true := decide_eq_true (by omega)
      rw [hc431] at h430; clear hc431
      refine pk0 (v := pt b 0) h430 rfl fun a432 h432 => ?_; clear h430
      refine pk0 (v := pt b 0) h432 rfl fun a433 h433 => ?_; clear h432
      refine pk0 (v := pt b 4) h433 rfl fun a434 h434 => ?_; clear h433
      refine pk (v := wk) h434 rfl (rn_load1 rfl rfl Try.isAgg67 (hf399.cell rfl)) fun a435 h435 => ?_; clear h434
      refine pk (v := .int .i64 (((P.W ++ (outT P.B g).take k).length : Nat) : Int)) h435 rfl (rn_lenOwn rfl rfl Try.underlying67 hf403) fun a436 h436 => ?_; clear h435
      refine pk0 (v := .bool (decide ((((P.W ++ (outT P.B g).take k).length : Nat) : Int) < 200))) h436 rfl fun a437 h437 => ?_; clear h436
      refine pk0 (v := .bool (decide ((((P.W ++ (outT P.B g).take k).length : Nat) : Int) < 200))) h437 rfl fun a438 h438 => ?_; clear h437
      refine pl_nil ?_
      refine co_then ?_
      cases hc439 : (decide ((((P.W ++ (outT P.B g).take k).length : Nat) : Int) < 200))
      ·
       rw [hc439] at h438
       have hp440 : ¬ ((((P.W ++ (outT P.B g).take k).length : Nat) : Int) < 200) := of_decide_eq_false hc439
       clear hc439
       refine co_false h438 rfl ?_
       refine wp_exit ?_
       refine co_thenX ?_
       refine co_thenX ?_
       refine co_blockX ?_
       refine co_ret0n h438 rfl ?_
       obtain ⟨S9, h1, h2⟩ := PrO.fin (P := { P with B := outN P.B, W := P.W ++ (outT P.B g).take k, T := P.T ++ List.replicate k 0 }) (NA := NA) (NB := NB) (wv := wk) (tv := tk) (w := w) hf399 hf400 hf401 hf403 hf404 (ap_symm (Grew.ap hx372 (ap_symm hQ.ap) (LkP.ofS hQ.hA))) hQ.nA (Grew.off hx372 hQ.nB hBk.lt) hofwA hofwB hoftA hoftB hSb hinA hin379 hik htk hB405
       exact ⟨k, S9, rfl, by rw [if_neg (by decide)]; omega, by show (P.W ++ (outT P.B g).take k).length ≤ 200; omega, h1, h2, hB405⟩
      ·
       rw [hc439] at h438
       have hp441 : (((P.W ++ (outT P.B g).take k).length : Nat) : Int) < 200 := of_decide_eq_true hc439
       clear hc439
       refine co_true h438 rfl ?_
       refine wp_skip ?_
       refine co_then ?_
       refine co_seq ?_
       refine wp_block ?_
       refine co_seq ?_
       refine dr_gen (fun x => But (S) w x ∧ x.ownsRow w.heap.size 61 8 v369 ((outT P.B g).length) ((outT P.B g).flatMap segE)) (by kernel_rfl) (fun w442 hg443 => ?_) (fun w442 hg443 => ?_)
       ·
        have hz444 := hg443.size
        have hB445 := fbU_new hB405 hg443
        have hr446 := row_kept_new hf402 hg443
        exact ⟨hB445, hr446⟩
       have hz447 := hg443.size
       have hB448 := fbU_new hB405 hg443
       have hr449 := row_kept_new hf402 hg443
       refine dk0 0 (v := pt b 0) h438 rfl rfl ⟨hB448, hr449⟩ fun a450 h450 => ?_; clear h438
       refine dk0 1 (v := pt b 0) h450 rfl rfl ⟨hB448, hr449⟩ fun a451 h451 => ?_; clear h450
       refine dk0 2 (v := pt b 0) h451 rfl rfl ⟨hB448, hr449⟩ fun a452 h452 => ?_; clear h451
       refine dk0 3 (v := pt b 4) h452 rfl rfl ⟨hB448, hr449⟩ fun a453 h453 => ?_; clear h452
       refine dk0 5 (v := v369) h453 rfl rfl ⟨hB448, hr449⟩ fun a454 h454 => ?_; clear h453
       refine dk0 6 (v := .int .i64 ((k : Nat) : Int)) h454 rfl rfl ⟨hB448, hr449⟩ fun a455 h455 => ?_; clear h454
       obtain ⟨y456, hy456⟩ : ∃ z, (outT P.B g)[k]? = some z := ⟨_, List.getElem?_eq_getElem (by first | omega | (simp; done) | (simp; omega))⟩
       refine dk 7 (v := pt (blkOf v369) (offOf v369 + k * 8)) h455 rfl rfl ⟨hB448, hr449⟩ (fun x hx => (rn_index rfl rfl rfl Try.underlying67 Try.sizeOf61 (row_sl hx.2 segE_len) (by omega) (by first | omega | (simp; done) | (simp; omega)))) fun a457 h457 => ?_; clear h455
       refine dk 8 (v := .agg #[.int .i64 y456.boot, .int .i64 y456.stream, .int .i64 y456.seq, .int .i64 y456.ab, .int .i64 y456.ast, .int .i64 y456.asq, .bool y456.has, .string y456.body]) h457 rfl rfl ⟨hB448, hr449⟩ (fun x hx => (rn_loadN rfl rfl Try.underlying61 rfl (by kernel_rfl) (sl_at (row_sl hx.2 segE_len) hy456))) fun a458 h458 => ?_; clear h457
       refine dr_many [4, 9] (by kernel_rfl) (by simp) ⟨?_, ?_, trivial⟩
       ·
        have hk459 := hf399.kept hg443 (by simp)
        refine dr_opVal (i := 4) (v := wk) h458 rfl rfl rfl rfl (by kernel_rfl) rfl (rn_load1 rfl rfl Try.isAgg67 (hk459.cell rfl)) ⟨hB448, hr449⟩ (fun a460 h460 => ?_); clear h458
        refine d1 9 h460 rfl rfl (op_new (v := fun N => .slice (some ⟨N, 0, none⟩) 1 1) (T := 61) (cs := #[.int .i64 y456.boot, .int .i64 y456.stream, .int .i64 y456.seq, .int .i64 y456.ab, .int .i64 y456.ast, .int .i64 y456.asq, .bool y456.has, .string y456.body]) (by kernel_rfl) (by kernel_rfl) (by kernel_rfl)) ?_ ?_; clear h460
        ·
         rintro _ w462 ⟨N463, rfl, hN466, hz467, hk465, hg464⟩
         have ha468 := row_fresh hr449 hN466
         have hu469 := row_under hr449 hN466
         have hr471 := row_kept_new hf403 hg443
         have ha470 := row_fresh hr471 hN466
         have hu472 := row_under hr471 hN466
         have hr474 := row_kept_new hf404 hg443
         have ha473 := row_fresh hr474 hN466
         have hu475 := row_under hr474 hN466
         have hz476 := hg464.size
         have hO478 := LkP.gr hf400 hg443 (fun k e => by cases e)
         have ho477 := off_new (LkP.ofS hO478) hN466
         have hO480 := LkP.gr hf401 hg443 (fun k e => by cases e)
         have ho479 := off_new (LkP.ofS hO480) hN466
         have hB481 := fbU_new hB448 hg464
         have hr482 := row_kept_new hr449 hg464
         exact ⟨hB481, hr482⟩
        rintro _ w462 a461 ⟨N463, rfl, hN466, hz467, hk465, hg464⟩ h461
        have ha468 := row_fresh hr449 hN466
        have hu469 := row_under hr449 hN466
        have hr471 := row_kept_new hf403 hg443
        have ha470 := row_fresh hr471 hN466
        have hu472 := row_under hr471 hN466
        have hr474 := row_kept_new hf404 hg443
        have ha473 := row_fresh hr474 hN466
        have hu475 := row_under hr474 hN466
        have hz476 := hg464.size
        have hO478 := LkP.gr hf400 hg443 (fun k e => by cases e)
        have ho477 := off_new (LkP.ofS hO478) hN466
        have hO480 := LkP.gr hf401 hg443 (fun k e => by cases e)
        have ho479 := off_new (LkP.ofS hO480) hN466
        try dsimp only at h461
        have hB481 := fbU_new hB448 hg464
        have hr482 := row_kept_new hr449 hg464
        have hr489 := row_kept_new hr471 hg464
        refine d1 10 h461 rfl rfl (op_appendF rfl 0 61 (z := .agg #[.int .i64 0, .int .i64 0, .int .i64 0, .int .i64 0, .int .i64 0, .int .i64 0, .bool false, .string (⟨#[]⟩)]) (size := 8) (bytes := 72) Try.underlying67 (by kernel_rfl) rfl rfl rfl hr489 rfl hk465 rfl (by kernel_rfl) (by first | omega | (simp only [List.length_nil, List.length_append, List.length_cons, List.length_take, List.length_drop]; omega)) (by first | omega | (simp only [List.length_nil, List.length_append, List.length_cons, List.length_take, List.length_drop]; omega)) (by omega)) ?_ ?_; clear h461
        ·
         rintro v485 w484 ⟨hr486, hwt488, hg487⟩
         have hr486' : w484.ownsRow 0 61 8 v485 (((P.W ++ (outT P.B g).take k) ++ [(SegT.mk y456.boot y456.stream y456.seq y456.ab y456.ast y456.asq y456.has y456.body)]).length) (((P.W ++ (outT P.B g).take k) ++ [(SegT.mk y456.boot y456.stream y456.seq y456.ab y456.ast y456.asq y456.has y456.body)]).flatMap segE) := row_push (y := (SegT.mk y456.boot y456.stream y456.seq y456.ab y456.ast y456.asq y456.has y456.body)) hr486 rfl rfl; clear hr486
         have hO492 := LkP.gr hO478 hg464 (fun k e => by cases e)
         have ho491 := LkP.ofS hO492
         have ho490 := offR_went hofwA ho491 hwt488
         have hO495 := LkP.gr hO480 hg464 (fun k e => by cases e)
         have ho494 := LkP.ofS hO495
         have ho493 := offR_went hofwB ho494 hwt488
         have hra496 := ap_went hr482 hrak hwt488
         have hz497 := hg487.size
         have hB498 := fbU_row hB481 hik hg487
         have hr499 := row_kept_off hr482 hrak hg487
         exact ⟨hB498, hr499⟩
        rintro v485 w484 a483 ⟨hr486, hwt488, hg487⟩ h483
        have hr486' : w484.ownsRow 0 61 8 v485 (((P.W ++ (outT P.B g).take k) ++ [(SegT.mk y456.boot y456.stream y456.seq y456.ab y456.ast y456.asq y456.has y456.body)]).length) (((P.W ++ (outT P.B g).take k) ++ [(SegT.mk y456.boot y456.stream y456.seq y456.ab y456.ast y456.asq y456.has y456.body)]).flatMap segE) := row_push (y := (SegT.mk y456.boot y456.stream y456.seq y456.ab y456.ast y456.asq y456.has y456.body)) hr486 rfl rfl; clear hr486
        have hO492 := LkP.gr hO478 hg464 (fun k e => by cases e)
        have ho491 := LkP.ofS hO492
        have ho490 := offR_went hofwA ho491 hwt488
        have hO495 := LkP.gr hO480 hg464 (fun k e => by cases e)
        have ho494 := LkP.ofS hO495
        have ho493 := offR_went hofwB ho494 hwt488
        have hra496 := ap_went hr482 hrak hwt488
        have hz497 := hg487.size
        have hB498 := fbU_row hB481 hik hg487
        have hr499 := row_kept_off hr482 hrak hg487
        refine dk0 11 (v := pt b 0) h483 rfl rfl ⟨hB498, hr499⟩ fun a500 h500 => ?_; clear h483
        refine dk0 12 (v := pt b 4) h500 rfl rfl ⟨hB498, hr499⟩ fun a501 h501 => ?_; clear h500
        have hk507 := hk459.kept hg464 (by simp)
        have hk508 := hk507.kept hg487 (own_neT hr489 hk507 (by decide))
        refine d1D 13 h501 rfl rfl (op_store1 rfl rfl rfl (row_one hr486') Try.sizeOf67 hk508 rfl) ?_ ?_; clear h501
        ·
         rintro _ w503 ⟨hk504, hz505, hg506⟩
         have hk504' : Blk w503 b 95 #[pt NA 0, pt NB 0, .int .i64 P.b0, .int .i64 P.b1, v485, tk, .int .i64 P.s0, .int .i64 P.s1, .int .i64 P.t0, .int .i64 P.t1, .bool true] := hk504; clear hk504
         have hz509 := hg506.size
         have hB510 := fbU_at hB498 hg506 (fun hlt => by rcases hSb with hq | hq; exact hq; omega)
         have hr511 := row_kept_at hr499 hg506 (own_neT hr499 hk508 (by decide))
         exact ⟨hB510, hr511⟩
        rintro _ w503 a502 ⟨hk504, hz505, hg506⟩ h502
        have hk504' : Blk w503 b 95 #[pt NA 0, pt NB 0, .int .i64 P.b0, .int .i64 P.b1, v485, tk, .int .i64 P.s0, .int .i64 P.s1, .int .i64 P.t0, .int .i64 P.t1, .bool true] := hk504; clear hk504
        have hz509 := hg506.size
        refine dr_done (by kernel_rfl) ?_
        refine co_then ?_
        refine co_reg ?_
        refine pk0 (v := pt b 0) h502 rfl fun a510 h510 => ?_; clear h502
        refine pk0 (v := pt b 0) h510 rfl fun a511 h511 => ?_; clear h510
        refine pk0 (v := pt b 0) h511 rfl fun a512 h512 => ?_; clear h511
        refine pk0 (v := pt b 5) h512 rfl fun a513 h513 => ?_; clear h512
        refine pk (v := tk) h513 rfl (rn_load1 rfl rfl Try.isAgg93 (hk504'.cell rfl)) fun a514 h514 => ?_; clear h513
        refine pk0 (v := .int .i64 1) h514 rfl fun a515 h515 => ?_; clear h514
        refine pk0 (v := .int .i64 0) h515 rfl fun a516 h516 => ?_; clear h515
        refine pw h516 rfl (op_new (v := fun N => .slice (some ⟨N, 0, none⟩) 1 1) (T := 3) (cs := #[.int .i64 0]) (by kernel_rfl) (by kernel_rfl) (by kernel_rfl)) ?_; clear h516
        rintro _ w518 a517 ⟨N519, rfl, hN522, hz523, hk521, hg520⟩ h517
        have hr525 := row_kept_at hr499 hg506 (own_neT hr499 hk508 (by decide))
        have ha524 := row_fresh hr525 hN522
        have hu526 := row_under hr525 hN522
        have hr528 := row_kept_new hr474 hg464
        have hr529 := row_kept_row hr528 hr489 hg487 (by decide)
        have hr530 := row_kept_at hr529 hg506 (own_neT hr529 hk508 (by decide))
        have ha527 := row_fresh hr530 hN522
        have hu531 := row_under hr530 hN522
        have hr533 := row_kept_at hr486' hg506 (own_neT hr486' hk508 (by decide))
        have ha532 := row_fresh hr533 hN522
        have hu534 := row_under hr533 hN522
        have hz535 := hg520.size
        have hO537 := LkP.gr hO492 hg487 (fun k e => hofwA k e)
        have hO538 := LkP.gr hO537 hg506 (fun k e => by cases e; exact hQ.nA)
        have ho536 := off_new (LkP.ofS hO538) hN522
        have hO540 := LkP.gr hO495 hg487 (fun k e => hofwB k e)
        have hO541 := LkP.gr hO540 hg506 (fun k e => by cases e; exact (Grew.off hx372 hQ.nB hBk.lt))
        have ho539 := off_new (LkP.ofS hO541) hN522
        try dsimp only at h517
        have hr548 := row_kept_new hr530 hg520
        refine pw h517 rfl (op_appendF rfl 0 3 (z := .int .i64 0) (size := 1) (bytes := 8) Try.underlying93 (by kernel_rfl) rfl rfl rfl hr548 rfl hk521 rfl (by kernel_rfl) (by first | omega | (simp only [List.length_nil, List.length_append, List.length_cons, List.length_take, List.length_drop]; omega)) (by first | omega | (simp only [List.length_nil, List.length_append, List.length_cons, List.length_take, List.length_drop]; omega)) (by omega)) ?_; clear h517
        rintro v544 w543 a542 ⟨hr545, hwt547, hg546⟩ h542
        have hr545' : w543.ownsRow 0 3 1 v544 (((P.T ++ List.replicate k 0) ++ [0]).length) (((P.T ++ List.replicate k 0) ++ [0]).flatMap (intE .i64)) := row_push (y := 0) hr545 rfl rfl; clear hr545
        have hB551 := fbU_at hB498 hg506 (fun hlt => by rcases hSb with hq | hq; exact hq; omega)
        have hB552 := fbU_new hB551 hg520
        have hk553 := hk465.kept hg487 (ha470)
        have hk554 := hk553.kept hg506 (by simp; omega)
        have hk555 := hk554.kept hg520 (by simp)
        have hO556 := LkP.gr hO538 hg520 (fun k e => by cases e)
        have ho550 := LkP.ofS hO556
        have ho549 := offR_went hoftA ho550 hwt547
        have hO559 := LkP.gr hO541 hg520 (fun k e => by cases e)
        have ho558 := LkP.ofS hO559
        have ho557 := offR_went hoftB ho558 hwt547
        have hz560 := hg546.size
        refine pk0 (v := pt b 0) h542 rfl fun a561 h561 => ?_; clear h542
        refine pk0 (v := pt b 5) h561 rfl fun a562 h562 => ?_; clear h561
        have hk568 := hk504'.kept hg520 (by simp)
        have hk569 := hk568.kept hg546 (own_neT hr548 hk568 (by decide))
        refine pwD h562 rfl (op_store1 rfl rfl rfl (row_one hr545') Try.sizeOf93 hk569 rfl) ?_; clear h562
        rintro _ w564 a563 ⟨hk565, hz566, hg567⟩ h563
        have hk565' : Blk w564 b 95 #[pt NA 0, pt NB 0, .int .i64 P.b0, .int .i64 P.b1, v485, v544, .int .i64 P.s0, .int .i64 P.s1, .int .i64 P.t0, .int .i64 P.t1, .bool true] := hk565; clear hk565
        have hz570 := hg567.size
        refine pl_nil ?_
        refine co_blockN ?_
        refine co_then ?_
        refine co_reg ?_
        refine pk0 (v := .int .i64 ((k : Nat) : Int)) h563 rfl fun a571 h571 => ?_; clear h563
        refine pk (v := .int .i64 ((k + 1 : Nat) : Int)) h571 rfl (rn_arith' rfl rfl rfl rfl rfl rfl (IntWalk.i64_in _ (by omega)) (by omega)) fun a572 h572 => ?_; clear h571
        refine pk0 (v := .int .i64 ((k + 1 : Nat) : Int)) h572 rfl fun a573 h573 => ?_; clear h572
        refine pl_nil ?_
        refine co_then ?_
        refine ⟨((outT P.B g).length - (k + 1)), by omega, ?_⟩
        have hiw9 : InS S w.heap.size v485 := (hik.went hwt488 (by omega))
        have hit9 : InS S w.heap.size v544 := (htk.went hwt547 (by omega))
        have hra9 : ∀ i, Value.ownBlock v369 = some i → Value.ownBlock v485 ≠ some i := hra496
        have howA9 : ∀ i, Value.ownBlock v485 = some i → ¬ SA i := ho490
        have hotA9 : ∀ i, Value.ownBlock v544 = some i → ¬ SA i := ho549
        have howB9 : ∀ i, Value.ownBlock v485 = some i → ¬ S370 i := ho493
        have hotB9 : ∀ i, Value.ownBlock v544 = some i → ¬ S370 i := ho557
        have hO574 := LkP.gr hO556 hg546 (fun k e => hoftA k e)
        have hO575 := LkP.gr hO574 hg567 (fun k e => by cases e; exact hQ.nA)
        have hO576 := LkP.gr hO559 hg546 (fun k e => hoftB k e)
        have hO577 := LkP.gr hO576 hg567 (fun k e => by cases e; exact (Grew.off hx372 hQ.nB hBk.lt))
        have hr578 := row_kept_new hr525 hg520
        have hr579 := row_kept_row hr578 hr548 hg546 (by decide)
        have hr580 := row_kept_at hr579 hg567 (own_neT hr579 hk569 (by decide))
        have hr581 := row_kept_new hr533 hg520
        have hr582 := row_kept_row hr581 hr548 hg546 (by decide)
        have hr583 := row_kept_at hr582 hg567 (own_neT hr582 hk569 (by decide))
        have hr584 := row_kept_at hr545' hg567 (own_neT hr545' hk569 (by decide))
        have hB585 := fbU_row hB552 htk hg546
        have hB586 := fbU_at hB585 hg567 (fun hlt => by rcases hSb with hq | hq; exact hq; omega)
        exact ⟨k + 1, v485, v544, h573.sub ⟨rfl, rfl, rfl, rfl, trivial⟩, rfl, by omega, by omega, by exact hiw9, by exact hit9, by exact howA9, by exact hotA9, by exact howB9, by exact hotB9, by exact hra9, hk565', hO575, hO577, hr580, (row_eq hr583 (by first | (simp; done) | exact take_push (by assumption))), (row_eq hr584 (by first | (simp; done) | exact rep_push)), hB586⟩
       ·
        refine dr_op (i := 9) h458 rfl rfl rfl rfl (op_new (v := fun N => .slice (some ⟨N, 0, none⟩) 1 1) (T := 61) (cs := #[.int .i64 y456.boot, .int .i64 y456.stream, .int .i64 y456.seq, .int .i64 y456.ab, .int .i64 y456.ast, .int .i64 y456.asq, .bool y456.has, .string y456.body]) (by kernel_rfl) (by kernel_rfl) (by kernel_rfl)) ?_ ?_; clear h458
        ·
         rintro _ w588 ⟨N589, rfl, hN592, hz593, hk591, hg590⟩
         have ha594 := row_fresh hr449 hN592
         have hu595 := row_under hr449 hN592
         have hr597 := row_kept_new hf403 hg443
         have ha596 := row_fresh hr597 hN592
         have hu598 := row_under hr597 hN592
         have hr600 := row_kept_new hf404 hg443
         have ha599 := row_fresh hr600 hN592
         have hu601 := row_under hr600 hN592
         have hz602 := hg590.size
         have hO604 := LkP.gr hf400 hg443 (fun k e => by cases e)
         have ho603 := off_new (LkP.ofS hO604) hN592
         have hO606 := LkP.gr hf401 hg443 (fun k e => by cases e)
         have ho605 := off_new (LkP.ofS hO606) hN592
         have hB607 := fbU_new hB448 hg590
         have hr608 := row_kept_new hr449 hg590
         exact ⟨hB607, hr608⟩
        rintro _ w588 a587 ⟨N589, rfl, hN592, hz593, hk591, hg590⟩ h587
        have ha594 := row_fresh hr449 hN592
        have hu595 := row_under hr449 hN592
        have hr597 := row_kept_new hf403 hg443
        have ha596 := row_fresh hr597 hN592
        have hu598 := row_under hr597 hN592
        have hr600 := row_kept_new hf404 hg443
        have ha599 := row_fresh hr600 hN592
        have hu601 := row_under hr600 hN592
        have hz602 := hg590.size
        have hO604 := LkP.gr hf400 hg443 (fun k e => by cases e)
        have ho603 := off_new (LkP.ofS hO604) hN592
        have hO606 := LkP.gr hf401 hg443 (fun k e => by cases e)
        have ho605 := off_new (LkP.ofS hO606) hN592
        try dsimp only at h587
        have hB607 := fbU_new hB448 hg590
        have hr608 := row_kept_new hr449 hg590
        refine dr_many [4] (by kernel_rfl) (by simp) ⟨?_, trivial⟩
        ·
         have hk609 := hf399.kept hg443 (by simp)
         have hk610 := hk609.kept hg590 (by simp)
         refine dr_opVal (i := 4) (v := wk) h587 rfl rfl rfl rfl (by kernel_rfl) rfl (rn_load1 rfl rfl Try.isAgg67 (hk610.cell rfl)) ⟨hB607, hr608⟩ (fun a611 h611 => ?_); clear h587
         have hr618 := row_kept_new hr597 hg590
         refine d1 10 h611 rfl rfl (op_appendF rfl 0 61 (z := .agg #[.int .i64 0, .int .i64 0, .int .i64 0, .int .i64 0, .int .i64 0, .int .i64 0, .bool false, .string (⟨#[]⟩)]) (size := 8) (bytes := 72) Try.underlying67 (by kernel_rfl) rfl rfl rfl hr618 rfl hk591 rfl (by kernel_rfl) (by first | omega | (simp only [List.length_nil, List.length_append, List.length_cons, List.length_take, List.length_drop]; omega)) (by first | omega | (simp only [List.length_nil, List.length_append, List.length_cons, List.length_take, List.length_drop]; omega)) (by omega)) ?_ ?_; clear h611
         ·
          rintro v614 w613 ⟨hr615, hwt617, hg616⟩
          have hr615' : w613.ownsRow 0 61 8 v614 (((P.W ++ (outT P.B g).take k) ++ [(SegT.mk y456.boot y456.stream y456.seq y456.ab y456.ast y456.asq y456.has y456.body)]).length) (((P.W ++ (outT P.B g).take k) ++ [(SegT.mk y456.boot y456.stream y456.seq y456.ab y456.ast y456.asq y456.has y456.body)]).flatMap segE) := row_push (y := (SegT.mk y456.boot y456.stream y456.seq y456.ab y456.ast y456.asq y456.has y456.body)) hr615 rfl rfl; clear hr615
          have hO621 := LkP.gr hO604 hg590 (fun k e => by cases e)
          have ho620 := LkP.ofS hO621
          have ho619 := offR_went hofwA ho620 hwt617
          have hO624 := LkP.gr hO606 hg590 (fun k e => by cases e)
          have ho623 := LkP.ofS hO624
          have ho622 := offR_went hofwB ho623 hwt617
          have hra625 := ap_went hr608 hrak hwt617
          have hz626 := hg616.size
          have hB627 := fbU_row hB607 hik hg616
          have hr628 := row_kept_off hr608 hrak hg616
          exact ⟨hB627, hr628⟩
         rintro v614 w613 a612 ⟨hr615, hwt617, hg616⟩ h612
         have hr615' : w613.ownsRow 0 61 8 v614 (((P.W ++ (outT P.B g).take k) ++ [(SegT.mk y456.boot y456.stream y456.seq y456.ab y456.ast y456.asq y456.has y456.body)]).length) (((P.W ++ (outT P.B g).take k) ++ [(SegT.mk y456.boot y456.stream y456.seq y456.ab y456.ast y456.asq y456.has y456.body)]).flatMap segE) := row_push (y := (SegT.mk y456.boot y456.stream y456.seq y456.ab y456.ast y456.asq y456.has y456.body)) hr615 rfl rfl; clear hr615
         have hO621 := LkP.gr hO604 hg590 (fun k e => by cases e)
         have ho620 := LkP.ofS hO621
         have ho619 := offR_went hofwA ho620 hwt617
         have hO624 := LkP.gr hO606 hg590 (fun k e => by cases e)
         have ho623 := LkP.ofS hO624
         have ho622 := offR_went hofwB ho623 hwt617
         have hra625 := ap_went hr608 hrak hwt617
         have hz626 := hg616.size
         have hB627 := fbU_row hB607 hik hg616
         have hr628 := row_kept_off hr608 hrak hg616
         refine dk0 11 (v := pt b 0) h612 rfl rfl ⟨hB627, hr628⟩ fun a629 h629 => ?_; clear h612
         refine dk0 12 (v := pt b 4) h629 rfl rfl ⟨hB627, hr628⟩ fun a630 h630 => ?_; clear h629
         have hk636 := hk610.kept hg616 (own_neT hr618 hk610 (by decide))
         refine d1D 13 h630 rfl rfl (op_store1 rfl rfl rfl (row_one hr615') Try.sizeOf67 hk636 rfl) ?_ ?_; clear h630
         ·
          rintro _ w632 ⟨hk633, hz634, hg635⟩
          have hk633' : Blk w632 b 95 #[pt NA 0, pt NB 0, .int .i64 P.b0, .int .i64 P.b1, v614, tk, .int .i64 P.s0, .int .i64 P.s1, .int .i64 P.t0, .int .i64 P.t1, .bool true] := hk633; clear hk633
          have hz637 := hg635.size
          have hB638 := fbU_at hB627 hg635 (fun hlt => by rcases hSb with hq | hq; exact hq; omega)
          have hr639 := row_kept_at hr628 hg635 (own_neT hr628 hk636 (by decide))
          exact ⟨hB638, hr639⟩
         rintro _ w632 a631 ⟨hk633, hz634, hg635⟩ h631
         have hk633' : Blk w632 b 95 #[pt NA 0, pt NB 0, .int .i64 P.b0, .int .i64 P.b1, v614, tk, .int .i64 P.s0, .int .i64 P.s1, .int .i64 P.t0, .int .i64 P.t1, .bool true] := hk633; clear hk633
         have hz637 := hg635.size
         refine dr_done (by kernel_rfl) ?_
         refine co_then ?_
         refine co_reg ?_
         refine pk0 (v := pt b 0) h631 rfl fun a638 h638 => ?_; clear h631
         refine pk0 (v := pt b 0) h638 rfl fun a639 h639 => ?_; clear h638
         refine pk0 (v := pt b 0) h639 rfl fun a640 h640 => ?_; clear h639
         refine pk0 (v := pt b 5) h640 rfl fun a641 h641 => ?_; clear h640
         refine pk (v := tk) h641 rfl (rn_load1 rfl rfl Try.isAgg93 (hk633'.cell rfl)) fun a642 h642 => ?_; clear h641
         refine pk0 (v := .int .i64 1) h642 rfl fun a643 h643 => ?_; clear h642
         refine pk0 (v := .int .i64 0) h643 rfl fun a644 h644 => ?_; clear h643
         refine pw h644 rfl (op_new (v := fun N => .slice (some ⟨N, 0, none⟩) 1 1) (T := 3) (cs := #[.int .i64 0]) (by kernel_rfl) (by kernel_rfl) (by kernel_rfl)) ?_; clear h644
         rintro _ w646 a645 ⟨N647, rfl, hN650, hz651, hk649, hg648⟩ h645
         have hr653 := row_kept_at hr628 hg635 (own_neT hr628 hk636 (by decide))
         have ha652 := row_fresh hr653 hN650
         have hu654 := row_under hr653 hN650
         have hr656 := row_kept_new hr600 hg590
         have hr657 := row_kept_row hr656 hr618 hg616 (by decide)
         have hr658 := row_kept_at hr657 hg635 (own_neT hr657 hk636 (by decide))
         have ha655 := row_fresh hr658 hN650
         have hu659 := row_under hr658 hN650
         have hr661 := row_kept_at hr615' hg635 (own_neT hr615' hk636 (by decide))
         have ha660 := row_fresh hr661 hN650
         have hu662 := row_under hr661 hN650
         have hz663 := hg648.size
         have hO665 := LkP.gr hO621 hg616 (fun k e => hofwA k e)
         have hO666 := LkP.gr hO665 hg635 (fun k e => by cases e; exact hQ.nA)
         have ho664 := off_new (LkP.ofS hO666) hN650
         have hO668 := LkP.gr hO624 hg616 (fun k e => hofwB k e)
         have hO669 := LkP.gr hO668 hg635 (fun k e => by cases e; exact (Grew.off hx372 hQ.nB hBk.lt))
         have ho667 := off_new (LkP.ofS hO669) hN650
         try dsimp only at h645
         have hr676 := row_kept_new hr658 hg648
         refine pw h645 rfl (op_appendF rfl 0 3 (z := .int .i64 0) (size := 1) (bytes := 8) Try.underlying93 (by kernel_rfl) rfl rfl rfl hr676 rfl hk649 rfl (by kernel_rfl) (by first | omega | (simp only [List.length_nil, List.length_append, List.length_cons, List.length_take, List.length_drop]; omega)) (by first | omega | (simp only [List.length_nil, List.length_append, List.length_cons, List.length_take, List.length_drop]; omega)) (by omega)) ?_; clear h645
         rintro v672 w671 a670 ⟨hr673, hwt675, hg674⟩ h670
         have hr673' : w671.ownsRow 0 3 1 v672 (((P.T ++ List.replicate k 0) ++ [0]).length) (((P.T ++ List.replicate k 0) ++ [0]).flatMap (intE .i64)) := row_push (y := 0) hr673 rfl rfl; clear hr673
         have hB679 := fbU_at hB627 hg635 (fun hlt => by rcases hSb with hq | hq; exact hq; omega)
         have hB680 := fbU_new hB679 hg648
         have hk681 := hk591.kept hg616 (ha596)
         have hk682 := hk681.kept hg635 (by simp; omega)
         have hk683 := hk682.kept hg648 (by simp)
         have hO684 := LkP.gr hO666 hg648 (fun k e => by cases e)
         have ho678 := LkP.ofS hO684
         have ho677 := offR_went hoftA ho678 hwt675
         have hO687 := LkP.gr hO669 hg648 (fun k e => by cases e)
         have ho686 := LkP.ofS hO687
         have ho685 := offR_went hoftB ho686 hwt675
         have hz688 := hg674.size
         refine pk0 (v := pt b 0) h670 rfl fun a689 h689 => ?_; clear h670
         refine pk0 (v := pt b 5) h689 rfl fun a690 h690 => ?_; clear h689
         have hk696 := hk633'.kept hg648 (by simp)
         have hk697 := hk696.kept hg674 (own_neT hr676 hk696 (by decide))
         refine pwD h690 rfl (op_store1 rfl rfl rfl (row_one hr673') Try.sizeOf93 hk697 rfl) ?_; clear h690
         rintro _ w692 a691 ⟨hk693, hz694, hg695⟩ h691
         have hk693' : Blk w692 b 95 #[pt NA 0, pt NB 0, .int .i64 P.b0, .int .i64 P.b1, v614, v672, .int .i64 P.s0, .int .i64 P.s1, .int .i64 P.t0, .int .i64 P.t1, .bool true] := hk693; clear hk693
         have hz698 := hg695.size
         refine pl_nil ?_
         refine co_blockN ?_
         refine co_then ?_
         refine co_reg ?_
         refine pk0 (v := .int .i64 ((k : Nat) : Int)) h691 rfl fun a699 h699 => ?_; clear h691
         refine pk (v := .int .i64 ((k + 1 : Nat) : Int)) h699 rfl (rn_arith' rfl rfl rfl rfl rfl rfl (IntWalk.i64_in _ (by omega)) (by omega)) fun a700 h700 => ?_; clear h699
         refine pk0 (v := .int .i64 ((k + 1 : Nat) : Int)) h700 rfl fun a701 h701 => ?_; clear h700
         refine pl_nil ?_
         refine co_then ?_
         refine ⟨((outT P.B g).length - (k + 1)), by omega, ?_⟩
         have hiw9 : InS S w.heap.size v614 := (hik.went hwt617 (by omega))
         have hit9 : InS S w.heap.size v672 := (htk.went hwt675 (by omega))
         have hra9 : ∀ i, Value.ownBlock v369 = some i → Value.ownBlock v614 ≠ some i := hra625
         have howA9 : ∀ i, Value.ownBlock v614 = some i → ¬ SA i := ho619
         have hotA9 : ∀ i, Value.ownBlock v672 = some i → ¬ SA i := ho677
         have howB9 : ∀ i, Value.ownBlock v614 = some i → ¬ S370 i := ho622
         have hotB9 : ∀ i, Value.ownBlock v672 = some i → ¬ S370 i := ho685
         have hO702 := LkP.gr hO684 hg674 (fun k e => hoftA k e)
         have hO703 := LkP.gr hO702 hg695 (fun k e => by cases e; exact hQ.nA)
         have hO704 := LkP.gr hO687 hg674 (fun k e => hoftB k e)
         have hO705 := LkP.gr hO704 hg695 (fun k e => by cases e; exact (Grew.off hx372 hQ.nB hBk.lt))
         have hr706 := row_kept_new hr653 hg648
         have hr707 := row_kept_row hr706 hr676 hg674 (by decide)
         have hr708 := row_kept_at hr707 hg695 (own_neT hr707 hk697 (by decide))
         have hr709 := row_kept_new hr661 hg648
         have hr710 := row_kept_row hr709 hr676 hg674 (by decide)
         have hr711 := row_kept_at hr710 hg695 (own_neT hr710 hk697 (by decide))
         have hr712 := row_kept_at hr673' hg695 (own_neT hr673' hk697 (by decide))
         have hB713 := fbU_row hB680 htk hg674
         have hB714 := fbU_at hB713 hg695 (fun hlt => by rcases hSb with hq | hq; exact hq; omega)
         exact ⟨k + 1, v614, v672, h701.sub ⟨rfl, rfl, rfl, rfl, trivial⟩, rfl, by omega, by omega, by exact hiw9, by exact hit9, by exact howA9, by exact hotA9, by exact howB9, by exact hotB9, by exact hra9, hk693', hO703, hO705, hr708, (row_eq hr711 (by first | (simp; done) | exact take_push (by assumption))), (row_eq hr712 (by first | (simp; done) | exact rep_push)), hB714⟩
end Go.Proofs.Ythmljllgfigebaa
