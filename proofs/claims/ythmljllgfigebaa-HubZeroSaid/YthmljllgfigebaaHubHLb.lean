/- The document's hub: Out. Conditions: none. -/
import Derived.Test.YthmljllgfigebaaLb5
import Derived.Test.YthmljllgfigebaaPexVLb
import Derived.Test.YthmljllgfigebaaGoLb
namespace Go.Proofs.Ythmljllgfigebaa
open Go.RowKit Go.PlainAid
set_option linter.unusedVariables false

set_option maxRecDepth 100000 in
set_option maxHeartbeats 3200000 in
theorem rhOut_any (S : Nat → Prop) (b : Nat) (q : Nat → Option Nat) (M : Nat → Option LnT) (g : Bool) (w : World) (hH : HkR S w b q M) :
    Calls Try.prog 58 #[pt b 0, .bool g] w fun e w' => ∃ (v : Value) (S' : Nat → Prop), e = .returned (v) ∧ HkR S' w' b q (outM M 4) ∧ w'.ownsRow w.heap.size 125 2 v (outH M g 4).length ((outH M g 4).flatMap outE) ∧ (∀ i, v.ownBlock = some i → ¬ S' i) ∧ Grew S S' w w' ∧ But (S) w w' := by
 have hB0 := But.refl (S) w
 have hinS : ∀ k, S k → S k ∨ w.heap.size ≤ k := fun k hk => .inl hk
 refine co_enter (n := 53) Try.func58 rfl rfl rfl [(0, pt b 0), (1, .bool g)] rfl (fun a h0 => ?_)
 refine co_seq ?_
 refine co_reg ?_
 refine pk0 (v := .slice none 0 0) h0 rfl fun a1 h1 => ?_; clear h0
 refine pl_nil ?_
 refine co_then ?_
 refine co_seq ?_
 refine co_reg ?_
 refine pk0 (v := .slice none 0 0) h1 rfl fun a2 h2 => ?_; clear h1
 refine pl_nil ?_
 refine co_then ?_
 refine co_seq ?_
 refine co_seq ?_
 refine co_reg ?_
 refine pk0 (v := .int .i64 0) h2 rfl fun a3 h3 => ?_; clear h2
 refine pl_nil ?_
 refine co_then ?_
 refine wp_block ?_
 have hin9 := hinS
 have hof9 : ∀ i, (Value.slice none 0 0).ownBlock = some i → ¬ S i := offR_nil
 have h4 : Slots 53 [(0, pt b 0), (1, .bool g), (5, .slice none 0 0), (6, .int .i64 0)] _ := h3.sub ⟨rfl, rfl, rfl, rfl, trivial⟩; clear h3
 refine co_loop (fun mm a x => ∃ (i : Nat) (v : Value) (SA : Nat → Prop), Slots 53 [(0, pt b 0), (1, .bool g), (5, v), (6, .int .i64 ((i : Nat) : Int))] a ∧ mm = 4 - i ∧ (i ≤ 4) ∧ (∀ k, SA k → S k ∨ w.heap.size ≤ k) ∧ (∀ i, v.ownBlock = some i → ¬ SA i) ∧ HkR SA x b q (outM M i) ∧ x.ownsRow w.heap.size 125 2 v (outH M g i).length ((outH M g i).flatMap outE) ∧ But (S) w x) (4 - 0) ?_ ?_
 · exact ⟨0, (.slice none 0 0), S, h4.sub ⟨rfl, rfl, rfl, (slot_eq rfl (congrArg (Value.int .i64) (by first | rfl | omega))), trivial⟩, rfl, by omega, by exact hin9, by exact hof9, hH, (row_nilL _ _ _ _ _), hB0⟩
 · rintro k5 a6 w7 ⟨i, v, SA, h6, rfl, hi8, hi9, hi10, hf11, hf12, hB13⟩
   have hz14 := hB13.size
   have hinA : ∀ k, SA k → S k ∨ w.heap.size ≤ k := by assumption
   have hofA : ∀ i, v.ownBlock = some i → ¬ SA i := by assumption
   have hl15 := outH_len M g i
   refine co_seq ?_
   refine co_seq ?_
   refine co_reg ?_
   refine pk0 (v := .int .i64 ((i : Nat) : Int)) h6 rfl fun a16 h16 => ?_; clear h6
   refine pk0 (v := .bool (decide (((i : Nat) : Int) < 4))) h16 rfl fun a17 h17 => ?_; clear h16
   refine pl_nil ?_
   refine co_then ?_
   cases hc18 : (decide (((i : Nat) : Int) < 4))
   ·
    rw [hc18] at h17
    have hp19 : ¬ (((i : Nat) : Int) < 4) := of_decide_eq_false hc18
    clear hc18
    refine co_false h17 rfl ?_
    refine wp_exit ?_
    refine co_thenX ?_
    refine co_thenX ?_
    refine co_blockX ?_
    refine co_then ?_
    refine co_seq ?_
    refine co_reg ?_
    refine pk0 (v := v) h17 rfl fun a20 h20 => ?_; clear h17
    refine pk0 (v := v) h20 rfl fun a21 h21 => ?_; clear h20
    refine pl_nil ?_
    refine co_then ?_
    refine wp_ret ?_
    refine co_ret1 h21 rfl rfl ?_
    obtain rfl : i = 4 := by omega
    exact ⟨_, SA, rfl, hf11, hf12, hofA, ⟨hinA, hB13⟩, hB13⟩
   ·
    rw [hc18] at h17
    have hp22 : ((i : Nat) : Int) < 4 := of_decide_eq_true hc18
    clear hc18
    refine co_true h17 rfl ?_
    refine wp_skip ?_
    refine co_then ?_
    refine co_seq ?_
    refine wp_block ?_
    refine co_seq ?_
    refine co_seq ?_
    refine co_reg ?_
    refine pk0 (v := pt b 0) h17 rfl fun a23 h23 => ?_; clear h17
    refine pk0 (v := .int .i64 ((i : Nat) : Int)) h23 rfl fun a24 h24 => ?_; clear h23
    refine pk0 (v := pt b 0) h24 rfl fun a25 h25 => ?_; clear h24
    refine pk0 (v := pt b 0) h25 rfl fun a26 h26 => ?_; clear h25
    refine pk (v := pt b i) h26 rfl (rn_indexAtAny rfl rfl rfl (ixa_hub b i (by omega))) fun a27 h27 => ?_; clear h26
    refine pk (v := (ptQ (q i))) h27 rfl (rn_load1 rfl rfl Try.isAgg57 (hub_cell (HbK.blk hf11) (by omega))) fun a28 h28 => ?_; clear h27
    refine pk (v := .bool ((q i).isNone)) h28 rfl (by generalize q i = z; cases z <;> kernel_rfl) fun a29 h29 => ?_; clear h28
    refine pl_nil ?_
    refine co_then ?_
    cases hc30 : ((q i).isNone)
    ·
     rw [hc30] at h29
     refine co_false h29 rfl ?_
     refine wp_skip ?_
     refine co_then ?_
     refine co_seq ?_
     refine co_reg ?_
     refine pk0 (v := pt b 0) h29 rfl fun a31 h31 => ?_; clear h29
     refine pk0 (v := .int .i64 ((i : Nat) : Int)) h31 rfl fun a32 h32 => ?_; clear h31
     refine pk0 (v := pt b 0) h32 rfl fun a33 h33 => ?_; clear h32
     refine pk0 (v := pt b 0) h33 rfl fun a34 h34 => ?_; clear h33
     refine pk (v := pt b i) h34 rfl (rn_indexAtAny rfl rfl rfl (ixa_hub b i (by omega))) fun a35 h35 => ?_; clear h34
     refine pk (v := (ptQ (q i))) h35 rfl (rn_load1 rfl rfl Try.isAgg57 (hub_cell (HbK.blk hf11) (by omega))) fun a36 h36 => ?_; clear h35
     refine pk0 (v := .bool g) h36 rfl fun a37 h37 => ?_; clear h36
     have ho40 := HkR.ofS hf11
     refine pw h37 rfl (op_call (args := #[(ptQ (q i)), .bool g]) (R := fun res xw => ∃ v : Value, ∃ S' : Nat → Prop, res = v ∧ HkR S' xw b q (hkN (outM M i) i) ∧ (xw.ownsRow w7.heap.size 61 8 v (hkT (outM M i) i g).length ((hkT (outM M i) i g).flatMap segE)) ∧ (∀ q, S' q → q < w7.heap.size) ∧ Grew SA S' w7 xw) rfl rfl rfl (by kernel_rfl) (by kernel_rfl) (Try.call38 _ _) (rHubOut w7 g (by omega) (by assumption) hf11) (by rintro e x ⟨v, S', h0, h⟩; exact ⟨_, h0, v, S', rfl, h⟩)) ?_; clear h37
     rintro v41 w39 a38 ⟨_, S42, rfl, hO43, hq45, hq46, hx44⟩ h38
     have hB47 := fbU_foot hB13 hx44.but (fun i hi hq => by rcases hinA i hq with k | k; exact k; omega)
     have hz48 := hB47.size
     have hz49 := hx44.but.size
     have hin50 : ∀ q, S42 q → S q ∨ w.heap.size ≤ q := fun q hq => by rcases hx44.sub q hq with k | k; exact hinA q k; exact .inr (by omega)
     have hbody := HbK.out_ok hf11 (i := i) (by omega) g
     have hl51 := hkT_len (outM M i) i g
     refine pk0 (v := v41) h38 rfl fun a52 h52 => ?_; clear h38
     refine pl_nil ?_
     refine co_then ?_
     refine co_seq ?_
     refine co_reg ?_
     refine pk0 (v := .int .i64 0) h52 rfl fun a53 h53 => ?_; clear h52
     refine pl_nil ?_
     refine co_then ?_
     refine wp_block ?_
     have hin8 := hin50
     have hof8 : ∀ i, v.ownBlock = some i → ¬ S42 i := (Grew.offR hx44 hf12 hofA)
     have hor8 : ∀ i, v41.ownBlock = some i → ¬ S42 i := (offR_row hq46 hq45 (Nat.le_refl _))
     have h54 : Slots 53 [(0, pt b 0), (1, .bool g), (5, v), (6, .int .i64 ((i : Nat) : Int)), (7, v41), (8, .int .i64 0)] _ := h53.sub ⟨rfl, rfl, rfl, rfl, rfl, rfl, trivial⟩; clear h53
     refine co_loop (fun mm a x => ∃ (k : Nat) (u : Value) (SB : Nat → Prop), Slots 53 [(0, pt b 0), (1, .bool g), (5, u), (6, .int .i64 ((i : Nat) : Int)), (7, v41), (8, .int .i64 ((k : Nat) : Int))] a ∧ mm = (hkT (outM M i) i g).length - k ∧ (k ≤ (hkT (outM M i) i g).length) ∧ (∀ k, SB k → S k ∨ w.heap.size ≤ k) ∧ (∀ i, u.ownBlock = some i → ¬ SB i) ∧ (∀ i, v41.ownBlock = some i → ¬ SB i) ∧ HkR SB x b q (hkN (outM M i) i) ∧ x.ownsRow w7.heap.size 61 8 v41 (hkT (outM M i) i g).length ((hkT (outM M i) i g).flatMap segE) ∧ x.ownsRow w.heap.size 125 2 u (outH M g i ++ okH i ((hkT (outM M i) i g).take k)).length ((outH M g i ++ okH i ((hkT (outM M i) i g).take k)).flatMap outE) ∧ But (S) w x) ((hkT (outM M i) i g).length - 0) ?_ ?_
     have hr55 := own_butS hf12 hx44.but hofA
     · exact ⟨0, v, S42, h54.sub ⟨rfl, rfl, rfl, rfl, rfl, (slot_eq rfl (congrArg (Value.int .i64) (by first | rfl | omega))), trivial⟩, rfl, by omega, by exact hin8, by exact hof8, by exact hor8, hO43, hq45, (row_eq hr55 (by first | exact okH_nil | exact okH_yes (by assumption) (by assumption) | exact okH_no (by assumption) (by assumption))), hB47⟩
     · rintro k56 a57 w58 ⟨k, u, SB, h57, rfl, hi59, hi60, hi61, hi62, hf63, hf64, hf65, hB66⟩
       have hz67 := hB66.size
       have hinB : ∀ k, SB k → S k ∨ w.heap.size ≤ k := by assumption
       have hofB : ∀ i, u.ownBlock = some i → ¬ SB i := by assumption
       have horB : ∀ i, v41.ownBlock = some i → ¬ SB i := by assumption
       have hl68 := okH_len (i := i) (l := (hkT (outM M i) i g).take k)
       have hlk : ((hkT (outM M i) i g).take k).length ≤ k := List.length_take_le _ _
       have hl69 : (outH M g i ++ okH i ((hkT (outM M i) i g).take k)).length ≤ 8 * i + k := by rw [List.length_append]; omega
       refine co_seq ?_
       refine co_seq ?_
       refine co_reg ?_
       refine pk0 (v := .int .i64 ((k : Nat) : Int)) h57 rfl fun a70 h70 => ?_; clear h57
       refine pk0 (v := v41) h70 rfl fun a71 h71 => ?_; clear h70
       refine pk (v := .int .i64 (((hkT (outM M i) i g).length : Nat) : Int)) h71 rfl (rn_lenOwn rfl rfl Try.underlying67 hf64) fun a72 h72 => ?_; clear h71
       refine pk0 (v := .bool (decide (((k : Nat) : Int) < (((hkT (outM M i) i g).length : Nat) : Int)))) h72 rfl fun a73 h73 => ?_; clear h72
       refine pl_nil ?_
       refine co_then ?_
       cases hc74 : (decide (((k : Nat) : Int) < (((hkT (outM M i) i g).length : Nat) : Int)))
       ·
        rw [hc74] at h73
        have hp75 : ¬ (((k : Nat) : Int) < (((hkT (outM M i) i g).length : Nat) : Int)) := of_decide_eq_false hc74
        clear hc74
        refine co_false h73 rfl ?_
        refine wp_exit ?_
        refine co_thenX ?_
        refine co_thenX ?_
        refine co_blockX ?_
        refine co_blockN ?_
        refine co_then ?_
        refine co_reg ?_
        refine pk0 (v := .int .i64 ((i : Nat) : Int)) h73 rfl fun a76 h76 => ?_; clear h73
        refine pk (v := .int .i64 ((i + 1 : Nat) : Int)) h76 rfl (rn_arith' rfl rfl rfl rfl rfl rfl (IntWalk.i64_in _ (by omega)) (by omega)) fun a77 h77 => ?_; clear h76
        refine pk0 (v := .int .i64 ((i + 1 : Nat) : Int)) h77 rfl fun a78 h78 => ?_; clear h77
        refine pl_nil ?_
        refine co_then ?_
        refine ⟨(4 - (i + 1)), by omega, ?_⟩
        have hin9 := hinB
        have hof9 : ∀ i, u.ownBlock = some i → ¬ SB i := hofB
        exact ⟨i + 1, u, SB, h78.sub ⟨rfl, rfl, rfl, rfl, trivial⟩, rfl, by omega, by exact hin9, by exact hof9, hf63, (row_eq hf65 (by first | rfl | exact okH_all (by omega) | exact outH_skip hnM)), hB66⟩
       ·
        rw [hc74] at h73
        have hp79 : ((k : Nat) : Int) < (((hkT (outM M i) i g).length : Nat) : Int) := of_decide_eq_true hc74
        clear hc74
        refine co_true h73 rfl ?_
        refine wp_skip ?_
        refine co_then ?_
        refine co_seq ?_
        refine wp_block ?_
        refine co_seq ?_
        refine co_reg ?_
        refine pk0 (v := v41) h73 rfl fun a80 h80 => ?_; clear h73
        refine pk0 (v := .int .i64 ((k : Nat) : Int)) h80 rfl fun a81 h81 => ?_; clear h80
        obtain ⟨y82, hy82⟩ : ∃ z, (hkT (outM M i) i g)[k]? = some z := ⟨_, List.getElem?_eq_getElem (by first | omega | (simp; done) | (simp; omega))⟩
        refine pk (v := pt (blkOf v41) (offOf v41 + k * 8)) h81 rfl (rn_index rfl rfl rfl Try.underlying67 Try.sizeOf61 (row_sl hf64 segE_len) (by omega) (by first | omega | (simp; done) | (simp; omega))) fun a83 h83 => ?_; clear h81
        refine pk (v := .agg #[.int .i64 y82.boot, .int .i64 y82.stream, .int .i64 y82.seq, .int .i64 y82.ab, .int .i64 y82.ast, .int .i64 y82.asq, .bool y82.has, .string y82.body]) h83 rfl (rn_loadN rfl rfl Try.underlying61 rfl (by kernel_rfl) (sl_at (row_sl hf64 segE_len) hy82)) fun a84 h84 => ?_; clear h83
        refine pw h84 rfl (op_call (args := #[.agg #[.int .i64 y82.boot, .int .i64 y82.stream, .int .i64 y82.seq, .int .i64 y82.ab, .int .i64 y82.ast, .int .i64 y82.asq, .bool y82.has, .string y82.body]]) (R := fun res xw => res = .tuple #[.string ((putG y82).1), .int .i64 ((putG y82).2)] ∧ Below w58.heap.size w58 xw) rfl rfl rfl (by kernel_rfl) (by kernel_rfl) (Try.call45 _ _) (rlPut_any y82 w58 (hbody y82 (List.mem_of_getElem? hy82))) (by rintro e x ⟨rfl, h⟩; exact ⟨_, rfl, rfl, h⟩)) ?_; clear h84
        rintro _ w86 a85 ⟨rfl, hb87⟩ h85
        have hz88 := hb87.size
        have ho89 := HkR.ofS hf63
        refine pk0 (v := .tuple #[.string ((putG y82).1), .int .i64 ((putG y82).2)]) h85 rfl fun a90 h90 => ?_; clear h85
        refine pk0 (v := .string ((putG y82).1)) h90 rfl fun a91 h91 => ?_; clear h90
        refine pk0 (v := .int .i64 ((putG y82).2)) h91 rfl fun a92 h92 => ?_; clear h91
        refine pk0 (v := .string ((putG y82).1)) h92 rfl fun a93 h93 => ?_; clear h92
        refine pk0 (v := .int .i64 ((putG y82).2)) h93 rfl fun a94 h94 => ?_; clear h93
        refine pl_nil ?_
        refine co_then ?_
        refine co_seq ?_
        refine co_reg ?_
        refine pk0 (v := .int .i64 ((putG y82).2)) h94 rfl fun a95 h95 => ?_; clear h94
        refine pk0 (v := .bool ((putG y82).2 == 0)) h95 rfl fun a96 h96 => ?_; clear h95
        refine pl_nil ?_
        refine co_then ?_
        have hB98 := fbU_call hB66 hb87
        cases hc97 : ((putG y82).2 == 0)
        ·
         rw [hc97] at h96
         have hp99 : ¬ ((putG y82).2 = 0) := by first | simpa using hc97 | simpa [and_assoc] using hc97
         clear hc97
         refine co_false h96 rfl ?_
         refine wp_skip ?_
         refine co_blockN ?_
         refine co_then ?_
         refine co_reg ?_
         refine pk0 (v := .int .i64 ((k : Nat) : Int)) h96 rfl fun a100 h100 => ?_; clear h96
         refine pk (v := .int .i64 ((k + 1 : Nat) : Int)) h100 rfl (rn_arith' rfl rfl rfl rfl rfl rfl (IntWalk.i64_in _ (by omega)) (by omega)) fun a101 h101 => ?_; clear h100
         refine pk0 (v := .int .i64 ((k + 1 : Nat) : Int)) h101 rfl fun a102 h102 => ?_; clear h101
         refine pl_nil ?_
         refine co_then ?_
         refine ⟨((hkT (outM M i) i g).length - (k + 1)), by omega, ?_⟩
         have hin8 := hinB
         have hof8 : ∀ i, u.ownBlock = some i → ¬ SB i := hofB
         have hor8 : ∀ i, v41.ownBlock = some i → ¬ SB i := horB
         have hO103 := HkR.gr hf63 (below_grown hb87) (fun k e => by cases e)
         have hr104 := row_kept_new hf64 (below_grown hb87)
         have hr105 := row_kept_new hf65 (below_grown hb87)
         exact ⟨k + 1, u, SB, h102.sub ⟨rfl, rfl, rfl, rfl, rfl, rfl, trivial⟩, rfl, by omega, by exact hin8, by exact hof8, by exact hor8, hO103, hr104, (row_eq hr105 (by first | exact okH_nil | exact okH_yes (by assumption) (by assumption) | exact okH_no (by assumption) (by assumption))), hB98⟩
        ·
         rw [hc97] at h96
         have hp106 : (putG y82).2 = 0 := by first | simpa using hc97 | simpa [and_assoc] using hc97
         clear hc97
         refine co_true h96 rfl ?_
         refine co_reg ?_
         refine pk0 (v := u) h96 rfl fun a107 h107 => ?_; clear h96
         refine pk0 (v := .int .i64 ((i : Nat) : Int)) h107 rfl fun a108 h108 => ?_; clear h107
         refine pk0 (v := .string ((putG y82).1)) h108 rfl fun a109 h109 => ?_; clear h108
         refine pk0 (v := .agg #[.int .i64 ((i : Nat) : Int), .string ((putG y82).1)]) h109 rfl fun a110 h110 => ?_; clear h109
         refine pw h110 rfl (op_new (v := fun N => .slice (some ⟨N, 0, none⟩) 1 1) (T := 125) (cs := #[.int .i64 ((i : Nat) : Int), .string ((putG y82).1)]) (by kernel_rfl) (by kernel_rfl) (by kernel_rfl)) ?_; clear h110
         rintro _ w112 a111 ⟨N113, rfl, hN116, hz117, hk115, hg114⟩ h111
         have hr119 := row_kept_new hf64 (below_grown hb87)
         have ha118 := row_fresh hr119 hN116
         have hu120 := row_under hr119 hN116
         have hr122 := row_kept_new hf65 (below_grown hb87)
         have ha121 := row_fresh hr122 hN116
         have hu123 := row_under hr122 hN116
         have hz124 := hg114.size
         have hO126 := HkR.gr hf63 (below_grown hb87) (fun k e => by cases e)
         have ho125 := off_new (HkR.ofS hO126) hN116
         try dsimp only at h111
         have hr133 := row_kept_new hr122 hg114
         refine pw h111 rfl (op_appendF rfl w.heap.size 125 (z := .agg #[.int .i64 0, .string (⟨#[]⟩)]) (size := 2) (bytes := 24) Try.underlying115 (by kernel_rfl) rfl rfl rfl hr133 rfl hk115 rfl (by kernel_rfl) (by first | omega | (simp only [List.length_nil, List.length_append, List.length_cons, List.length_take, List.length_drop]; omega)) (by first | omega | (simp only [List.length_nil, List.length_append, List.length_cons, List.length_take, List.length_drop]; omega)) (by omega)) ?_; clear h111
         rintro v129 w128 a127 ⟨hr130, hwt132, hg131⟩ h127
         have hr130' : w128.ownsRow w.heap.size 125 2 v129 (((outH M g i ++ okH i ((hkT (outM M i) i g).take k)) ++ [(((i : Nat) : Int), (putG y82).1)]).length) (((outH M g i ++ okH i ((hkT (outM M i) i g).take k)) ++ [(((i : Nat) : Int), (putG y82).1)]).flatMap outE) := row_push (y := (((i : Nat) : Int), (putG y82).1)) hr130 rfl rfl; clear hr130
         have hB136 := fbU_new hB98 hg114
         have hO137 := HkR.gr hO126 hg114 (fun k e => by cases e)
         have ho135 := HkR.ofS hO137
         have ho134 := offR_went hofB ho135 hwt132
         have hz138 := hg131.size
         refine pk0 (v := v129) h127 rfl fun a139 h139 => ?_; clear h127
         refine pl_nil ?_
         refine co_blockN ?_
         refine co_then ?_
         refine co_reg ?_
         refine pk0 (v := .int .i64 ((k : Nat) : Int)) h139 rfl fun a140 h140 => ?_; clear h139
         refine pk (v := .int .i64 ((k + 1 : Nat) : Int)) h140 rfl (rn_arith' rfl rfl rfl rfl rfl rfl (IntWalk.i64_in _ (by omega)) (by omega)) fun a141 h141 => ?_; clear h140
         refine pk0 (v := .int .i64 ((k + 1 : Nat) : Int)) h141 rfl fun a142 h142 => ?_; clear h141
         refine pl_nil ?_
         refine co_then ?_
         refine ⟨((hkT (outM M i) i g).length - (k + 1)), by omega, ?_⟩
         have hin8 := hinB
         have hof8 : ∀ i, v129.ownBlock = some i → ¬ SB i := ho134
         have hor8 : ∀ i, v41.ownBlock = some i → ¬ SB i := horB
         have hO143 := HkR.gr hO137 hg131 (fun k e => hofB k e)
         have hr144 := row_kept_new hr119 hg114
         have hr145 := row_kept_row hr144 hr133 hg131 (by decide)
         have hB146 := fbU_row hB136 (InS.low hr133 (by omega)) hg131
         exact ⟨k + 1, v129, SB, h142.sub ⟨rfl, rfl, rfl, rfl, rfl, rfl, trivial⟩, rfl, by omega, by exact hin8, by exact hof8, by exact hor8, hO143, hr145, (row_eq hr130' (by first | exact okH_nil | exact okH_yes (by assumption) (by assumption) | exact okH_no (by assumption) (by assumption))), hB146⟩
    ·
     rw [hc30] at h29
     refine co_true h29 rfl ?_
     refine wp_exit ?_
     refine co_thenX ?_
     refine co_blockX ?_
     refine co_then ?_
     refine co_reg ?_
     refine pk0 (v := .int .i64 ((i : Nat) : Int)) h29 rfl fun a147 h147 => ?_; clear h29
     refine pk (v := .int .i64 ((i + 1 : Nat) : Int)) h147 rfl (rn_arith' rfl rfl rfl rfl rfl rfl (IntWalk.i64_in _ (by omega)) (by omega)) fun a148 h148 => ?_; clear h147
     refine pk0 (v := .int .i64 ((i + 1 : Nat) : Int)) h148 rfl fun a149 h149 => ?_; clear h148
     refine pl_nil ?_
     refine co_then ?_
     refine ⟨(4 - (i + 1)), by omega, ?_⟩
     have hnM := HkR.none (i := i) hf11 (by omega) (by assumption)
     have hin9 := hinA
     have hof9 : ∀ i, v.ownBlock = some i → ¬ SA i := hofA
     exact ⟨i + 1, v, SA, h149.sub ⟨rfl, rfl, rfl, rfl, trivial⟩, rfl, by omega, by exact hin9, by exact hof9, (by rw [outM_skip hnM]; exact hf11), (row_eq hf12 (by first | rfl | exact okH_all (by omega) | exact outH_skip hnM)), hB13⟩
end Go.Proofs.Ythmljllgfigebaa
