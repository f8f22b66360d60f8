/- catenalaw11: DiskOrder. Conditions: texts of at most 1048576 bytes. -/
import Derived.Test.YtcnahhobppnbbaaDiskS
import Derived.Test.YtcnahhobppnbbaaDiskJ
namespace Go.Proofs.Ytcnahhobppnbbaa
open Go.RowKit Go.PlainAid
set_option linter.unusedVariables false

set_option maxRecDepth 100000 in
set_option maxHeartbeats 1600000 in
theorem diskOrder_law (v : Value) (l : List ActT) (n : Int) (w : World) (hs : SliceOf actE 4 w v l) (hok : ∀ z ∈ l, actOk z) (hn : 0 ≤ n ∧ n ≤ 255) :
    Calls Try.prog 5 #[v, .int .u8 n] w fun e w' => e = .returned (.bool true) ∧ Below w.heap.size w w' := by
 have hB0 := Below.refl w.heap.size w
 have hl_hs := sl_len hs
 refine co_enter (n := 108) Try.func5 rfl rfl rfl [(0, v), (1, .int .u8 n)] rfl (fun a h0 => ?_)
 refine co_seq ?_
 refine co_reg ?_
 refine pk0 (v := .bool false) h0 rfl fun a1 h1 => ?_; clear h0
 refine pl_nil ?_
 refine co_then ?_
 refine co_seq ?_
 refine co_reg ?_
 refine pw h1 rfl (op_call (args := #[]) (R := fun res xw => ∃ N, res = pt N 0 ∧ DObj w.heap.size xw N 0 s0D ∧ Below w.heap.size w xw) rfl rfl rfl (by kernel_rfl) (by kernel_rfl) (Try.call15 _ _) (tNew w.heap.size w (by omega)) (by rintro e x ⟨N, rfl, h1, h2⟩; exact ⟨_, rfl, N, rfl, h1, h2⟩)) ?_; clear h1
 rintro _ w3 a2 ⟨N6, rfl, hd4, hb7⟩ h2
 have hz8 := hb7.size
 refine pk0 (v := pt N6 0) h2 rfl fun a9 h9 => ?_; clear h2
 refine pl_nil ?_
 refine co_then ?_
 refine co_seq ?_
 refine co_reg ?_
 refine pk0 (v := .slice none 0 0) h9 rfl fun a10 h10 => ?_; clear h9
 refine pl_nil ?_
 refine co_then ?_
 refine co_seq ?_
 refine co_seq ?_
 refine co_reg ?_
 refine pk0 (v := .int .i64 0) h10 rfl fun a11 h11 => ?_; clear h10
 refine pl_nil ?_
 refine co_then ?_
 refine wp_block ?_
 have h12 : Slots 108 [(0, v), (1, .int .u8 n), (5, pt N6 0), (6, .slice none 0 0), (7, .int .i64 0)] _ := h11.sub ⟨rfl, rfl, rfl, rfl, rfl, trivial⟩; clear h11
 refine co_loop (fun mm a x => ∃ (i : Nat) (u : Value), Slots 108 [(0, v), (1, .int .u8 n), (5, pt N6 0), (6, u), (7, .int .i64 ((i : Nat) : Int))] a ∧ mm = l.length - i ∧ (i ≤ l.length) ∧ (i ≤ 20) ∧ DObj w.heap.size x N6 i (wrAll s0D (l.take i)) ∧ x.ownsRow w.heap.size 29 4 u ((l.take i).filter okW).length (((l.take i).filter okW).flatMap actE) ∧ Below w.heap.size w x) (l.length - 0) ?_ ?_
 have hB13 := hb_call hB0 hb7
 · exact ⟨0, (.slice none 0 0), h12.sub ⟨rfl, rfl, rfl, rfl, (slot_eq rfl (congrArg (Value.int .i64) (by first | rfl | omega))), trivial⟩, rfl, by omega, by omega, (dk_eq hd4 (by first | rfl | exact (wrAll_at (by assumption)).symm) (by omega)), (row_nilL _ _ _ _ _), hB13⟩
 · rintro k14 a15 w16 ⟨i, u, h15, rfl, hi17, hi18, hf19, hf20, hB21⟩
   have hz22 := hB21.size
   have hfl : ((l.take i).filter okW).length ≤ i := Nat.le_trans (List.length_filter_le ..) (List.length_take_le ..)
   refine co_seq ?_
   refine co_seq ?_
   refine co_reg ?_
   refine pk0 (v := .int .i64 ((i : Nat) : Int)) h15 rfl fun a23 h23 => ?_; clear h15
   refine pk0 (v := v) h23 rfl fun a24 h24 => ?_; clear h23
   refine pk (v := .int .i64 ((l.length : Nat) : Int)) h24 rfl (rn_len rfl rfl Try.underlying22 (hs.below hB21)) fun a25 h25 => ?_; clear h24
   refine pk0 (v := .bool (decide (((i : Nat) : Int) < ((l.length : Nat) : Int)))) h25 rfl fun a26 h26 => ?_; clear h25
   refine pk0 (v := .bool (decide (((i : Nat) : Int) < ((l.length : Nat) : Int)))) h26 rfl fun a27 h27 => ?_; clear h26
   cases hc28 : (decide (((i : Nat) : Int) < ((l.length : Nat) : Int)))
   ·
    rw [hc28] at h27
    have hp29 : ¬ (((i : Nat) : Int) < ((l.length : Nat) : Int)) := of_decide_eq_false hc28
    clear hc28
    refine psk h27 rfl fun a30 h30 => ?_; clear h27
    refine psk h30 rfl fun a31 h31 => ?_; clear h30
    refine pk0 (v := .bool false) h31 rfl fun a32 h32 => ?_; clear h31
    refine pl_nil ?_
    refine co_then ?_
    refine co_false h32 rfl ?_
    refine wp_exit ?_
    refine co_thenX ?_
    refine co_thenX ?_
    refine co_blockX ?_
    refine co_then ?_
    refine co_seq ?_
    refine co_reg ?_
    refine pk0 (v := pt N6 0) h32 rfl fun a33 h33 => ?_; clear h32
    refine pk0 (v := .int .u8 n) h33 rfl fun a34 h34 => ?_; clear h33
    refine pk (v := .int .i64 n) h34 rfl (rn_conv rfl rfl Try.underlying5 Try.underlying3 (IntWalk.i64_in _ (by omega))) fun a35 h35 => ?_; clear h34
    have hIA := wrAll_I s0_I hok i
    have hpl40 := (wrAll_I s0_I hok i).pl
    refine pw h35 rfl (op_call (args := #[pt N6 0, .int .i64 n]) (R := fun res xw => res = .tuple #[] ∧ DObj w.heap.size xw N6 (2 * (i) + 2 * (wrAll s0D (l.take i)).ps.length) (crS (wrAll s0D (l.take i)) n) ∧ ButD w.heap.size w16 xw) rfl rfl rfl (by kernel_rfl) (by kernel_rfl) (Try.call25 _ _) (tCrash w16 n hf19 (by omega) ((wrAll_I s0_I hok i).hpl (by omega)) (by rw [wrAll_boots]; decide) ⟨by omega, by omega⟩ ((wrAll_I s0_I hok i).hcr (by omega) ⟨by omega, by omega⟩) (wrAll_I s0_I hok i).hfin) (by rintro e x ⟨rfl, h1, h2⟩; exact ⟨_, rfl, rfl, h1, h2⟩)) ?_; clear h35
    rintro _ w37 a36 ⟨rfl, hd38, hx39⟩ h36
    have hz42 := hx39.size
    have hB41 := (hbD hB21 hx39)
    have hz43 := hB41.size
    refine pl_nil ?_
    refine co_then ?_
    refine co_seq ?_
    refine co_reg ?_
    refine pw h36 rfl (op_call (args := #[]) (R := fun res xw => ∃ N, res = pt N 0 ∧ RObj w.heap.size xw N r0S ∧ Below w37.heap.size w37 xw) rfl rfl rfl (by kernel_rfl) (by kernel_rfl) (Try.call16 _ _) (tRNew w.heap.size w37 (by omega)) (by rintro e x ⟨N, rfl, h1, h2⟩; exact ⟨_, rfl, N, rfl, h1, h2⟩)) ?_; clear h36
    rintro _ w45 a44 ⟨N48, rfl, hd46, hb49⟩ h44
    have hz50 := hb49.size
    refine pk0 (v := pt N48 0) h44 rfl fun a51 h51 => ?_; clear h44
    refine pl_nil ?_
    refine co_then ?_
    refine co_seq ?_
    refine co_reg ?_
    refine pk0 (v := .int .u8 n) h51 rfl fun a52 h52 => ?_; clear h51
    refine pk (v := .int .i64 n) h52 rfl (rn_conv rfl rfl Try.underlying5 Try.underlying3 (IntWalk.i64_in _ (by omega))) fun a53 h53 => ?_; clear h52
    refine pk0 (v := .int .i64 n) h53 rfl fun a54 h54 => ?_; clear h53
    refine pl_nil ?_
    refine co_then ?_
    refine co_seq ?_
    refine co_seq ?_
    refine co_reg ?_
    refine pk0 (v := .int .i64 0) h54 rfl fun a55 h55 => ?_; clear h54
    refine pl_nil ?_
    refine co_then ?_
    refine wp_block ?_
    have h56 : Slots 108 [(5, pt N6 0), (6, u), (8, pt N48 0), (9, .int .i64 n), (10, .int .i64 0)] _ := h55.sub ⟨rfl, rfl, rfl, rfl, rfl, trivial⟩; clear h55
    refine co_loop (fun mm a x => ∃ (j : Nat) (lf : Int) (Pk : List FlT), Slots 108 [(5, pt N6 0), (6, u), (8, pt N48 0), (9, .int .i64 lf), (10, .int .i64 ((j : Nat) : Int))] a ∧ mm = ((l.take i).filter okW).length - j ∧ (j ≤ ((l.take i).filter okW).length) ∧ (0 ≤ lf ∧ lf ≤ 255) ∧ (trun n ((l.take i).filter okW) = Pk ++ trun lf (((l.take i).filter okW).drop j)) ∧ (Pk.length = j) ∧ (∀ p ∈ Pk, p.2.size ≤ 1048576) ∧ DObj w.heap.size x N6 (2 * (i) + 2 * (wrAll s0D (l.take i)).ps.length) (crS (wrAll s0D (l.take i)) n) ∧ RObj w.heap.size x N48 (⟨[], Pk, 1, 1⟩ : RkS) ∧ x.ownsRow w.heap.size 29 4 u ((l.take i).filter okW).length (((l.take i).filter okW).flatMap actE) ∧ Below w.heap.size w x) (((l.take i).filter okW).length - 0) ?_ ?_
    have hd57 := hd38.call hb49
    have hr58 := rowD hf20 (by unfold offD; decide) hx39
    have hr59 := row_kept_new hr58 (below_grown hb49)
    have hB60 := hb_call hB41 hb49
    · exact ⟨0, n, [], h56.sub ⟨rfl, rfl, rfl, rfl, (slot_eq rfl (congrArg (Value.int .i64) (by first | rfl | omega))), trivial⟩, rfl, by omega, by omega, by first | rfl | exact htr', by first | rfl | (simp; omega), by first | exact hps | (intro p hp; cases hp), (dk_eq hd57 (rfl) (by omega)), (rk_eq hd46 (by first | rfl | exact rwS_y htkx.1)), hr59, hB60⟩
    · rintro k61 a62 w63 ⟨j, lf, Pk, h62, rfl, hi64, hi65, hi66, hi67, hi68, hf69, hf70, hf71, hB72⟩
      have hz73 := hB72.size
      have htr : trun n ((l.take i).filter okW) = Pk ++ trun lf (((l.take i).filter okW).drop j) := by assumption
      have hPs : ∀ p ∈ Pk, p.2.size ≤ 1048576 := by assumption
      refine co_seq ?_
      refine co_seq ?_
      refine co_reg ?_
      refine pk0 (v := .int .i64 ((j : Nat) : Int)) h62 rfl fun a74 h74 => ?_; clear h62
      refine pk0 (v := u) h74 rfl fun a75 h75 => ?_; clear h74
      refine pk (v := .int .i64 ((((l.take i).filter okW).length : Nat) : Int)) h75 rfl (rn_lenOwn rfl rfl Try.underlying22 hf71) fun a76 h76 => ?_; clear h75
      refine pk0 (v := .bool (decide (((j : Nat) : Int) < ((((l.take i).filter okW).length : Nat) : Int)))) h76 rfl fun a77 h77 => ?_; clear h76
      refine pl_nil ?_
      refine co_then ?_
      cases hc78 : (decide (((j : Nat) : Int) < ((((l.take i).filter okW).length : Nat) : Int)))
      ·
       rw [hc78] at h77
       have hp79 : ¬ (((j : Nat) : Int) < ((((l.take i).filter okW).length : Nat) : Int)) := of_decide_eq_false hc78
       clear hc78
       refine co_false h77 rfl ?_
       refine wp_exit ?_
       refine co_thenX ?_
       refine co_thenX ?_
       refine co_blockX ?_
       refine co_then ?_
       refine co_seq ?_
       refine co_seq ?_
       refine co_reg ?_
       refine pk0 (v := .int .i64 0) h77 rfl fun a80 h80 => ?_; clear h77
       refine pl_nil ?_
       refine co_then ?_
       refine wp_block ?_
       have hte := trun_end htr (by omega)
       have h81 : Slots 108 [(5, pt N6 0), (6, u), (8, pt N48 0), (12, .int .i64 0)] _ := h80.sub ⟨rfl, rfl, rfl, rfl, trivial⟩; clear h80
       refine co_loop (fun mm a x => ∃ (q : Nat), Slots 108 [(5, pt N6 0), (6, u), (8, pt N48 0), (12, .int .i64 ((q : Nat) : Int))] a ∧ mm = ((l.take i).filter okW).length - q ∧ (q ≤ ((l.take i).filter okW).length) ∧ DObj w.heap.size x N6 (2 * (i) + 2 * (wrAll s0D (l.take i)).ps.length) (crS (wrAll s0D (l.take i)) n) ∧ RObj w.heap.size x N48 (⟨[], Pk, 1, 1⟩ : RkS) ∧ x.ownsRow w.heap.size 29 4 u ((l.take i).filter okW).length (((l.take i).filter okW).flatMap actE) ∧ Below w.heap.size w x) (((l.take i).filter okW).length - 0) ?_ ?_
       · exact ⟨0, h81.sub ⟨rfl, rfl, rfl, (slot_eq rfl (congrArg (Value.int .i64) (by first | rfl | omega))), trivial⟩, rfl, by omega, (dk_eq hf69 (rfl) (by omega)), (rk_eq hf70 (rfl)), hf71, hB72⟩
       · rintro k82 a83 w84 ⟨q, h83, rfl, hi85, hf86, hf87, hf88, hB89⟩
         have hz90 := hB89.size
         refine co_seq ?_
         refine co_seq ?_
         refine co_reg ?_
         refine pk0 (v := .int .i64 ((q : Nat) : Int)) h83 rfl fun a91 h91 => ?_; clear h83
         refine pk0 (v := u) h91 rfl fun a92 h92 => ?_; clear h91
         refine pk (v := .int .i64 ((((l.take i).filter okW).length : Nat) : Int)) h92 rfl (rn_lenOwn rfl rfl Try.underlying22 hf88) fun a93 h93 => ?_; clear h92
         refine pk0 (v := .bool (decide (((q : Nat) : Int) < ((((l.take i).filter okW).length : Nat) : Int)))) h93 rfl fun a94 h94 => ?_; clear h93
         refine pl_nil ?_
         refine co_then ?_
         cases hc95 : (decide (((q : Nat) : Int) < ((((l.take i).filter okW).length : Nat) : Int)))
         ·
          rw [hc95] at h94
          have hp96 : ¬ (((q : Nat) : Int) < ((((l.take i).filter okW).length : Nat) : Int)) := of_decide_eq_false hc95
          clear hc95
          refine co_false h94 rfl ?_
          refine wp_exit ?_
          refine co_thenX ?_
          refine co_thenX ?_
          refine co_blockX ?_
          refine co_then ?_
          refine co_seq ?_
          refine co_reg ?_
          refine pk0 (v := pt N6 0) h94 rfl fun a97 h97 => ?_; clear h94
          refine pw h97 rfl (op_call (args := #[pt N6 0]) (R := fun res xw => res = .int .i64 (sumP (crS (wrAll s0D (l.take i)) n).ps) ∧ DObj w.heap.size xw N6 (2 * (i) + 2 * (wrAll s0D (l.take i)).ps.length) (crS (wrAll s0D (l.take i)) n) ∧ ButD w.heap.size w84 xw) rfl rfl rfl (by kernel_rfl) (by kernel_rfl) (Try.call24 _ _) (tPending w84 hf86 (((wrAll_I s0_I hok i).crash n).hsb (by omega))) (by rintro e x ⟨rfl, h1, h2⟩; exact ⟨_, rfl, rfl, h1, h2⟩)) ?_; clear h97
          rintro _ w99 a98 ⟨rfl, hd100, hx101⟩ h98
          have hz103 := hx101.size
          have hB102 := (hbD hB89 hx101)
          have hz104 := hB102.size
          refine pk0 (v := .bool (sumP (crS (wrAll s0D (l.take i)) n).ps == 0)) h98 rfl fun a105 h105 => ?_; clear h98
          refine pk0 (v := .bool (sumP (crS (wrAll s0D (l.take i)) n).ps == 0)) h105 rfl fun a106 h106 => ?_; clear h105
          have hc107 : (sumP (crS (wrAll s0D (l.take i)) n).ps == 0) = true := by rfl
          rw [hc107] at h106; clear hc107
          refine pw h106 rfl (op_call (args := #[]) (R := fun res xw => res = .bool true ∧ Below w99.heap.size w99 xw) rfl rfl rfl (by kernel_rfl) (by kernel_rfl) (Try.call20 _ _) (awake11  w99 ) (by rintro e x ⟨rfl, hb110⟩; exact ⟨_, rfl, ⟨rfl, hb110⟩⟩)) ?_; clear h106
          rintro _ w109 a108 ⟨rfl, hb110⟩ h108
          have hz111 := hb110.size
          refine pk0 (v := .bool true) h108 rfl fun a112 h112 => ?_; clear h108
          refine pk0 (v := .bool true) h112 rfl fun a113 h113 => ?_; clear h112
          refine pl_nil ?_
          refine co_then ?_
          refine wp_ret ?_
          refine co_ret1 h113 rfl rfl ?_
          have hB114 := hb_call hB102 hb110
          exact ⟨rfl, hB114⟩
         ·
          rw [hc95] at h94
          have hp115 : ((q : Nat) : Int) < ((((l.take i).filter okW).length : Nat) : Int) := of_decide_eq_true hc95
          clear hc95
          refine co_true h94 rfl ?_
          refine wp_skip ?_
          refine co_then ?_
          refine co_seq ?_
          refine wp_block ?_
          refine co_seq ?_
          refine dr_gen (fun x => Below w.heap.size w x ∧ x.ownsRow w.heap.size 29 4 u (((l.take i).filter okW).length) (((l.take i).filter okW).flatMap actE)) (by kernel_rfl) (fun w116 hg117 => ?_) (fun w116 hg117 => ?_)
          ·
           have hz118 := hg117.size
           have hB119 := hb_new hB89 hg117
           have hr120 := row_kept_new hf88 hg117
           exact ⟨hB119, hr120⟩
          have hz121 := hg117.size
          have hB122 := hb_new hB89 hg117
          have hr123 := row_kept_new hf88 hg117
          refine dk0 0 (v := pt N6 0) h94 rfl rfl ⟨hB122, hr123⟩ fun a124 h124 => ?_; clear h94
          refine dk0 1 (v := u) h124 rfl rfl ⟨hB122, hr123⟩ fun a125 h125 => ?_; clear h124
          refine dk0 2 (v := .int .i64 ((q : Nat) : Int)) h125 rfl rfl ⟨hB122, hr123⟩ fun a126 h126 => ?_; clear h125
          obtain ⟨y127, hy127⟩ : ∃ z, ((l.take i).filter okW)[q]? = some z := ⟨_, List.getElem?_eq_getElem (by first | omega | (simp; done) | (simp; omega))⟩
          have oky127 := (fun (z : ActT) (_ : z ∈ ((l.take i).filter okW)) => trivial) _ (List.mem_of_getElem? hy127)
          have htky127 := ftk_ok hy127; have hszy127 : y127.2.2.1.size ≤ 1048576 := (hok y127 (List.mem_of_mem_take htky127.2)).2.1
          refine dk 3 (v := pt (blkOf u) (offOf u + q * 4)) h126 rfl rfl ⟨hB122, hr123⟩ (fun x hx => (rn_index rfl rfl rfl Try.underlying22 Try.sizeOf29 (row_sl hx.2 actE_len) (by omega) (by first | omega | (simp; done) | (simp; omega)))) fun a128 h128 => ?_; clear h126
          refine dk0 4 (v := pt (blkOf u) (offOf u + q * 4 + 1)) h128 rfl rfl ⟨hB122, hr123⟩ fun a129 h129 => ?_; clear h128
          refine dk 5 (v := .int .i64 y127.2.1) h129 rfl rfl ⟨hB122, hr123⟩ (fun x hx => (rn_load1 rfl rfl Try.isAgg3 ((sl_at (row_sl hx.2 actE_len) hy127) 1 _ rfl))) fun a130 h130 => ?_; clear h129
          refine dk0 7 (v := pt N48 0) h130 rfl rfl ⟨hB122, hr123⟩ fun a131 h131 => ?_; clear h130
          refine dk0 8 (v := u) h131 rfl rfl ⟨hB122, hr123⟩ fun a132 h132 => ?_; clear h131
          refine dk0 9 (v := .int .i64 ((q : Nat) : Int)) h132 rfl rfl ⟨hB122, hr123⟩ fun a133 h133 => ?_; clear h132
          refine dk 10 (v := pt (blkOf u) (offOf u + q * 4)) h133 rfl rfl ⟨hB122, hr123⟩ (fun x hx => (rn_index rfl rfl rfl Try.underlying22 Try.sizeOf29 (row_sl hx.2 actE_len) (by omega) (by first | omega | (simp; done) | (simp; omega)))) fun a134 h134 => ?_; clear h133
          refine dk0 11 (v := pt (blkOf u) (offOf u + q * 4 + 1)) h134 rfl rfl ⟨hB122, hr123⟩ fun a135 h135 => ?_; clear h134
          refine dk 12 (v := .int .i64 y127.2.1) h135 rfl rfl ⟨hB122, hr123⟩ (fun x hx => (rn_load1 rfl rfl Try.isAgg3 ((sl_at (row_sl hx.2 actE_len) hy127) 1 _ rfl))) fun a136 h136 => ?_; clear h135
          have hd141 := hf86.new hg117
          refine d1 6 h136 rfl rfl (op_call (args := #[pt N6 0, .int .i64 y127.2.1]) (R := fun res xw => ∃ sv : ByteArray, res = .string sv ∧ sv = datF (crS (wrAll s0D (l.take i)) n).fm y127.2.1 ∧ DObj w.heap.size xw N6 (2 * (i) + 2 * (wrAll s0D (l.take i)).ps.length) (crS (wrAll s0D (l.take i)) n) ∧ ButD w.heap.size w116 xw) rfl rfl rfl (by kernel_rfl) (by kernel_rfl) (Try.call19 _ _) (tData w116 y127.2.1 hd141) (by rintro e x ⟨rfl, h1, h2⟩; exact ⟨_, rfl, _, rfl, rfl, h1, h2⟩)) ?_ ?_; clear h136
          ·
           rintro _ w138 ⟨sv142, rfl, hsv143, hd139, hx140⟩
           have hz145 := hx140.size
           have hB144 := (hbD hB122 hx140)
           have hz146 := hB144.size
           have hq147 : sv142.size = (datF (crS (wrAll s0D (l.take i)) n).fm y127.2.1 : ByteArray).size := by rw [hsv143]
           have hr148 := rowD hr123 (by unfold offD; decide) hx140
           exact ⟨hB144, hr148⟩
          rintro _ w138 a137 ⟨sv142, rfl, hsv143, hd139, hx140⟩ h137
          have hz145 := hx140.size
          have hB144 := (hbD hB122 hx140)
          have hz146 := hB144.size
          have hq147 : sv142.size = (datF (crS (wrAll s0D (l.take i)) n).fm y127.2.1 : ByteArray).size := by rw [hsv143]
          have hr148 := rowD hr123 (by unfold offD; decide) hx140
          have hd153 := hf87.new hg117
          have hd154 := hd153.disk hx140
          refine d1 13 h137 rfl rfl (op_call (args := #[pt N48 0, .int .i64 y127.2.1]) (R := fun res xw => ∃ sv : ByteArray, res = .string sv ∧ sv = datR (⟨[], Pk, 1, 1⟩ : RkS) y127.2.1 ∧ RObj w.heap.size xw N48 (⟨[], Pk, 1, 1⟩ : RkS) ∧ ButR w.heap.size w138 xw) rfl rfl rfl (by kernel_rfl) (by kernel_rfl) (Try.call27 _ _) (tRData w138 y127.2.1 hd154 (fun z hz => Nat.le_trans (hPs z hz) (by decide)) (fun q => catR_small hPs (by omega) y127.2.1 q)) (by rintro e x ⟨rfl, h1, h2⟩; exact ⟨_, rfl, _, rfl, rfl, h1, h2⟩)) ?_ ?_; clear h137
          ·
           rintro _ w150 ⟨sv155, rfl, hsv156, hd151, hx152⟩
           have hz158 := hx152.size
           have hB157 := (hbR hB144 hx152)
           have hz159 := hB157.size
           have hr160 := rowR hr148 (by unfold offR; decide) hx152
           exact ⟨hB157, hr160⟩
          rintro _ w150 a149 ⟨sv155, rfl, hsv156, hd151, hx152⟩ h149
          have hz158 := hx152.size
          have hB157 := (hbR hB144 hx152)
          have hz159 := hB157.size
          have hr160 := rowR hr148 (by unfold offR; decide) hx152
          refine dk0 14 (v := .bool (!(sv142.toList == sv155.toList))) h149 rfl rfl ⟨hB157, hr160⟩ fun a161 h161 => ?_; clear h149
          refine dr_done (by kernel_rfl) ?_
          refine co_then ?_
          have hc162 : (!(sv142.toList == sv155.toList)) = false := by rw [hsv143, hsv156, ← hte, order_eq hIA hn.1]; simp
          rw [hc162] at h161; clear hc162
          refine co_false h161 rfl ?_
          refine wp_skip ?_
          refine co_blockN ?_
          refine co_then ?_
          refine co_reg ?_
          refine pk0 (v := .int .i64 ((q : Nat) : Int)) h161 rfl fun a163 h163 => ?_; clear h161
          refine pk (v := .int .i64 ((q + 1 : Nat) : Int)) h163 rfl (rn_arith' rfl rfl rfl rfl rfl rfl (IntWalk.i64_in _ (by omega)) (by omega)) fun a164 h164 => ?_; clear h163
          refine pk0 (v := .int .i64 ((q + 1 : Nat) : Int)) h164 rfl fun a165 h165 => ?_; clear h164
          refine pl_nil ?_
          refine co_then ?_
          refine ⟨(((l.take i).filter okW).length - (q + 1)), by omega, ?_⟩
          have hd166 := hd139.doc hx152
          exact ⟨q + 1, h165.sub ⟨rfl, rfl, rfl, rfl, trivial⟩, rfl, by omega, (dk_eq hd166 (rfl) (by omega)), (rk_eq hd151 (rfl)), hr160, hB157⟩
      ·
       rw [hc78] at h77
       have hp167 : ((j : Nat) : Int) < ((((l.take i).filter okW).length : Nat) : Int) := of_decide_eq_true hc78
       clear hc78
       refine co_true h77 rfl ?_
       refine wp_skip ?_
       refine co_then ?_
       refine co_seq ?_
       refine wp_block ?_
       refine co_seq ?_
       refine co_reg ?_
       refine pk0 (v := u) h77 rfl fun a168 h168 => ?_; clear h77
       refine pk0 (v := .int .i64 ((j : Nat) : Int)) h168 rfl fun a169 h169 => ?_; clear h168
       obtain ⟨y170, hy170⟩ : ∃ z, ((l.take i).filter okW)[j]? = some z := ⟨_, List.getElem?_eq_getElem (by first | omega | (simp; done) | (simp; omega))⟩
       have oky170 := (fun (z : ActT) (_ : z ∈ ((l.take i).filter okW)) => trivial) _ (List.mem_of_getElem? hy170)
       have htky170 := ftk_ok hy170; have hszy170 : y170.2.2.1.size ≤ 1048576 := (hok y170 (List.mem_of_mem_take htky170.2)).2.1
       refine pk (v := pt (blkOf u) (offOf u + j * 4)) h169 rfl (rn_index rfl rfl rfl Try.underlying22 Try.sizeOf29 (row_sl hf71 actE_len) (by omega) (by first | omega | (simp; done) | (simp; omega))) fun a171 h171 => ?_; clear h169
       refine pk0 (v := pt (blkOf u) (offOf u + j * 4 + 2)) h171 rfl fun a172 h172 => ?_; clear h171
       refine pk (v := .string y170.2.2.1) h172 rfl (rn_load1 rfl rfl Try.isAgg9 ((sl_at (row_sl hf71 actE_len) hy170) 2 _ rfl)) fun a173 h173 => ?_; clear h172
       refine pk0 (v := .string y170.2.2.1) h173 rfl fun a174 h174 => ?_; clear h173
       refine pl_nil ?_
       refine co_then ?_
       refine co_seq ?_
       refine co_seq ?_
       refine co_reg ?_
       refine pk0 (v := .int .i64 lf) h174 rfl fun a175 h175 => ?_; clear h174
       refine pk0 (v := .string y170.2.2.1) h175 rfl fun a176 h176 => ?_; clear h175
       refine pk (v := .int .i64 ((y170.2.2.1.size : Nat) : Int)) h176 rfl (rn_lenStr rfl rfl Try.underlying9) fun a177 h177 => ?_; clear h176
       refine pk0 (v := .bool (decide (lf < ((y170.2.2.1.size : Nat) : Int)))) h177 rfl fun a178 h178 => ?_; clear h177
       refine pl_nil ?_
       refine co_then ?_
       cases hc179 : (decide (lf < ((y170.2.2.1.size : Nat) : Int)))
       ·
        rw [hc179] at h178
        have hp180 : ¬ (lf < ((y170.2.2.1.size : Nat) : Int)) := of_decide_eq_false hc179
        clear hc179
        refine co_false h178 rfl ?_
        refine wp_skip ?_
        refine co_then ?_
        refine co_seq ?_
        refine co_reg ?_
        refine pk0 (v := pt N48 0) h178 rfl fun a181 h181 => ?_; clear h178
        refine pk0 (v := u) h181 rfl fun a182 h182 => ?_; clear h181
        refine pk0 (v := .int .i64 ((j : Nat) : Int)) h182 rfl fun a183 h183 => ?_; clear h182
        refine pk (v := pt (blkOf u) (offOf u + j * 4)) h183 rfl (rn_index rfl rfl rfl Try.underlying22 Try.sizeOf29 (row_sl hf71 actE_len) (by omega) (by first | omega | (simp; done) | (simp; omega))) fun a184 h184 => ?_; clear h183
        refine pk0 (v := pt (blkOf u) (offOf u + j * 4 + 1)) h184 rfl fun a185 h185 => ?_; clear h184
        refine pk (v := .int .i64 y170.2.1) h185 rfl (rn_load1 rfl rfl Try.isAgg3 ((sl_at (row_sl hf71 actE_len) hy170) 1 _ rfl)) fun a186 h186 => ?_; clear h185
        refine pk0 (v := .string y170.2.2.1) h186 rfl fun a187 h187 => ?_; clear h186
        refine pw h187 rfl (op_call (args := #[pt N48 0, .int .i64 y170.2.1, .string y170.2.2.1]) (R := fun res xw => res = .int .i64 (wrE y170.2.1) ∧ RObj w.heap.size xw N48 (rwS (⟨[], Pk, 1, 1⟩ : RkS) y170.2.1 y170.2.2.1) ∧ ButR w.heap.size w63 xw) rfl rfl rfl (by kernel_rfl) (by kernel_rfl) (Try.call26 _ _) (tRWrite w63 y170.2.1 y170.2.2.1 hf70 (by show Pk.length ≤ 100000; omega)) (by rintro e x ⟨rfl, h1, h2⟩; exact ⟨_, rfl, rfl, h1, h2⟩)) ?_; clear h187
        rintro _ w189 a188 ⟨rfl, hd190, hx191⟩ h188
        have hz193 := hx191.size
        have hB192 := (hbR hB72 hx191)
        have hz194 := hB192.size
        refine pl_nil ?_
        refine co_then ?_
        refine co_reg ?_
        refine pk0 (v := .int .i64 lf) h188 rfl fun a195 h195 => ?_; clear h188
        refine pk0 (v := .string y170.2.2.1) h195 rfl fun a196 h196 => ?_; clear h195
        refine pk (v := .int .i64 ((y170.2.2.1.size : Nat) : Int)) h196 rfl (rn_lenStr rfl rfl Try.underlying9) fun a197 h197 => ?_; clear h196
        refine pk (v := .int .i64 (lf - ((y170.2.2.1.size : Nat) : Int))) h197 rfl (rn_arith rfl rfl rfl rfl rfl rfl (IntWalk.i64_in _ (by omega))) fun a198 h198 => ?_; clear h197
        refine pk0 (v := .int .i64 (lf - ((y170.2.2.1.size : Nat) : Int))) h198 rfl fun a199 h199 => ?_; clear h198
        refine pl_nil ?_
        refine co_blockN ?_
        refine co_then ?_
        refine co_reg ?_
        refine pk0 (v := .int .i64 ((j : Nat) : Int)) h199 rfl fun a200 h200 => ?_; clear h199
        refine pk (v := .int .i64 ((j + 1 : Nat) : Int)) h200 rfl (rn_arith' rfl rfl rfl rfl rfl rfl (IntWalk.i64_in _ (by omega)) (by omega)) fun a201 h201 => ?_; clear h200
        refine pk0 (v := .int .i64 ((j + 1 : Nat) : Int)) h201 rfl fun a202 h202 => ?_; clear h201
        refine pl_nil ?_
        refine co_then ?_
        refine ⟨(((l.take i).filter okW).length - (j + 1)), by omega, ?_⟩
        have hcut : cutS lf y170.2.2.1 = y170.2.2.1 := by unfold cutS; rw [if_neg (by omega)]
        have htr' := trun_step htr hy170 hcut
        have hps : ∀ p ∈ Pk ++ [(y170.2.1, y170.2.2.1)], p.2.size ≤ 1048576 := by intro p hp; rcases List.mem_append.1 hp with hp | hp; exact hPs p hp; simp at hp; subst hp; show (y170.2.2.1 : ByteArray).size ≤ 1048576; omega
        have hd203 := hf69.doc hx191
        have hr204 := rowR hf71 (by unfold offR; decide) hx191
        exact ⟨j + 1, (lf - ((y170.2.2.1.size : Nat) : Int)), (Pk ++ [(y170.2.1, y170.2.2.1)]), h202.sub ⟨rfl, rfl, rfl, rfl, rfl, trivial⟩, rfl, by omega, by omega, by first | rfl | exact htr', by first | rfl | (simp; omega), by first | exact hps | (intro p hp; cases hp), (dk_eq hd203 (rfl) (by omega)), (rk_eq hd190 (by first | rfl | exact rwS_y htky170.1)), hr204, hB192⟩
       ·
        rw [hc179] at h178
        have hp205 : lf < ((y170.2.2.1.size : Nat) : Int) := of_decide_eq_true hc179
        clear hc179
        refine co_true h178 rfl ?_
        refine co_reg ?_
        refine pk0 (v := .string y170.2.2.1) h178 rfl fun a206 h206 => ?_; clear h178
        refine pk0 (v := .int .i64 lf) h206 rfl fun a207 h207 => ?_; clear h206
        refine pk (v := .string (y170.2.2.1.extract 0 ((lf).toNat))) h207 rfl (rn_sliceStrTo (j := ((lf).toNat)) rfl rfl rfl Try.underlying9 (by omega) (by omega)) fun a208 h208 => ?_; clear h207
        refine pk0 (v := .string (y170.2.2.1.extract 0 ((lf).toNat))) h208 rfl fun a209 h209 => ?_; clear h208
        refine pl_nil ?_
        refine co_then ?_
        refine co_seq ?_
        refine co_reg ?_
        refine pk0 (v := pt N48 0) h209 rfl fun a210 h210 => ?_; clear h209
        refine pk0 (v := u) h210 rfl fun a211 h211 => ?_; clear h210
        refine pk0 (v := .int .i64 ((j : Nat) : Int)) h211 rfl fun a212 h212 => ?_; clear h211
        refine pk (v := pt (blkOf u) (offOf u + j * 4)) h212 rfl (rn_index rfl rfl rfl Try.underlying22 Try.sizeOf29 (row_sl hf71 actE_len) (by omega) (by first | omega | (simp; done) | (simp; omega))) fun a213 h213 => ?_; clear h212
        refine pk0 (v := pt (blkOf u) (offOf u + j * 4 + 1)) h213 rfl fun a214 h214 => ?_; clear h213
        refine pk (v := .int .i64 y170.2.1) h214 rfl (rn_load1 rfl rfl Try.isAgg3 ((sl_at (row_sl hf71 actE_len) hy170) 1 _ rfl)) fun a215 h215 => ?_; clear h214
        refine pk0 (v := .string (y170.2.2.1.extract 0 ((lf).toNat))) h215 rfl fun a216 h216 => ?_; clear h215
        have hex := ext_size y170.2.2.1 lf.toNat (by omega)
        refine pw h216 rfl (op_call (args := #[pt N48 0, .int .i64 y170.2.1, .string (y170.2.2.1.extract 0 ((lf).toNat))]) (R := fun res xw => res = .int .i64 (wrE y170.2.1) ∧ RObj w.heap.size xw N48 (rwS (⟨[], Pk, 1, 1⟩ : RkS) y170.2.1 (y170.2.2.1.extract 0 ((lf).toNat))) ∧ ButR w.heap.size w63 xw) rfl rfl rfl (by kernel_rfl) (by kernel_rfl) (Try.call26 _ _) (tRWrite w63 y170.2.1 (y170.2.2.1.extract 0 ((lf).toNat)) hf70 (by show Pk.length ≤ 100000; omega)) (by rintro e x ⟨rfl, h1, h2⟩; exact ⟨_, rfl, rfl, h1, h2⟩)) ?_; clear h216
        rintro _ w218 a217 ⟨rfl, hd219, hx220⟩ h217
        have hz222 := hx220.size
        have hB221 := (hbR hB72 hx220)
        have hz223 := hB221.size
        refine pl_nil ?_
        refine co_then ?_
        refine co_reg ?_
        refine pk0 (v := .int .i64 lf) h217 rfl fun a224 h224 => ?_; clear h217
        refine pk0 (v := .string (y170.2.2.1.extract 0 ((lf).toNat))) h224 rfl fun a225 h225 => ?_; clear h224
        refine pk (v := .int .i64 (((y170.2.2.1.extract 0 ((lf).toNat) : ByteArray).size : Nat) : Int)) h225 rfl (rn_lenStr rfl rfl Try.underlying9) fun a226 h226 => ?_; clear h225
        refine pk (v := .int .i64 (lf - (((y170.2.2.1.extract 0 ((lf).toNat) : ByteArray).size : Nat) : Int))) h226 rfl (rn_arith rfl rfl rfl rfl rfl rfl (IntWalk.i64_in _ (by omega))) fun a227 h227 => ?_; clear h226
        refine pk0 (v := .int .i64 (lf - (((y170.2.2.1.extract 0 ((lf).toNat) : ByteArray).size : Nat) : Int))) h227 rfl fun a228 h228 => ?_; clear h227
        refine pl_nil ?_
        refine co_blockN ?_
        refine co_then ?_
        refine co_reg ?_
        refine pk0 (v := .int .i64 ((j : Nat) : Int)) h228 rfl fun a229 h229 => ?_; clear h228
        refine pk (v := .int .i64 ((j + 1 : Nat) : Int)) h229 rfl (rn_arith' rfl rfl rfl rfl rfl rfl (IntWalk.i64_in _ (by omega)) (by omega)) fun a230 h230 => ?_; clear h229
        refine pk0 (v := .int .i64 ((j + 1 : Nat) : Int)) h230 rfl fun a231 h231 => ?_; clear h230
        refine pl_nil ?_
        refine co_then ?_
        refine ⟨(((l.take i).filter okW).length - (j + 1)), by omega, ?_⟩
        have hcut : cutS lf y170.2.2.1 = y170.2.2.1.extract 0 ((lf).toNat) := by unfold cutS; rw [if_pos (by omega)]
        have htr' := trun_step htr hy170 hcut
        have hps : ∀ p ∈ Pk ++ [(y170.2.1, y170.2.2.1.extract 0 ((lf).toNat))], p.2.size ≤ 1048576 := by intro p hp; rcases List.mem_append.1 hp with hp | hp; exact hPs p hp; simp at hp; subst hp; show (y170.2.2.1.extract 0 ((lf).toNat) : ByteArray).size ≤ 1048576; omega
        have hd232 := hf69.doc hx220
        have hr233 := rowR hf71 (by unfold offR; decide) hx220
        exact ⟨j + 1, (lf - (((y170.2.2.1.extract 0 ((lf).toNat) : ByteArray).size : Nat) : Int)), (Pk ++ [(y170.2.1, y170.2.2.1.extract 0 ((lf).toNat))]), h231.sub ⟨rfl, rfl, rfl, rfl, rfl, trivial⟩, rfl, by omega, by omega, by first | rfl | exact htr', by first | rfl | (simp; omega), by first | exact hps | (intro p hp; cases hp), (dk_eq hd232 (rfl) (by omega)), (rk_eq hd219 (by first | rfl | exact rwS_y htky170.1)), hr233, hB221⟩
   ·
    rw [hc28] at h27
    have hp234 : ((i : Nat) : Int) < ((l.length : Nat) : Int) := of_decide_eq_true hc28
    clear hc28
    refine pk0 (v := .int .i64 ((i : Nat) : Int)) h27 rfl fun a235 h235 => ?_; clear h27
    refine pk0 (v := .bool (decide (((i : Nat) : Int) < 20))) h235 rfl fun a236 h236 => ?_; clear h235
    refine pk0 (v := .bool (decide (((i : Nat) : Int) < 20))) h236 rfl fun a237 h237 => ?_; clear h236
    refine pl_nil ?_
    refine co_then ?_
    cases hc238 : (decide (((i : Nat) : Int) < 20))
    ·
     rw [hc238] at h237
     have hp239 : ¬ (((i : Nat) : Int) < 20) := of_decide_eq_false hc238
     clear hc238
     refine co_false h237 rfl ?_
     refine wp_exit ?_
     refine co_thenX ?_
     refine co_thenX ?_
     refine co_blockX ?_
     refine co_then ?_
     refine co_seq ?_
     refine co_reg ?_
     refine pk0 (v := pt N6 0) h237 rfl fun a240 h240 => ?_; clear h237
     refine pk0 (v := .int .u8 n) h240 rfl fun a241 h241 => ?_; clear h240
     refine pk (v := .int .i64 n) h241 rfl (rn_conv rfl rfl Try.underlying5 Try.underlying3 (IntWalk.i64_in _ (by omega))) fun a242 h242 => ?_; clear h241
     have hIA := wrAll_I s0_I hok i
     have hpl247 := (wrAll_I s0_I hok i).pl
     refine pw h242 rfl (op_call (args := #[pt N6 0, .int .i64 n]) (R := fun res xw => res = .tuple #[] ∧ DObj w.heap.size xw N6 (2 * (i) + 2 * (wrAll s0D (l.take i)).ps.length) (crS (wrAll s0D (l.take i)) n) ∧ ButD w.heap.size w16 xw) rfl rfl rfl (by kernel_rfl) (by kernel_rfl) (Try.call25 _ _) (tCrash w16 n hf19 (by omega) ((wrAll_I s0_I hok i).hpl (by omega)) (by rw [wrAll_boots]; decide) ⟨by omega, by omega⟩ ((wrAll_I s0_I hok i).hcr (by omega) ⟨by omega, by omega⟩) (wrAll_I s0_I hok i).hfin) (by rintro e x ⟨rfl, h1, h2⟩; exact ⟨_, rfl, rfl, h1, h2⟩)) ?_; clear h242
     rintro _ w244 a243 ⟨rfl, hd245, hx246⟩ h243
     have hz249 := hx246.size
     have hB248 := (hbD hB21 hx246)
     have hz250 := hB248.size
     refine pl_nil ?_
     refine co_then ?_
     refine co_seq ?_
     refine co_reg ?_
     refine pw h243 rfl (op_call (args := #[]) (R := fun res xw => ∃ N, res = pt N 0 ∧ RObj w.heap.size xw N r0S ∧ Below w244.heap.size w244 xw) rfl rfl rfl (by kernel_rfl) (by kernel_rfl) (Try.call16 _ _) (tRNew w.heap.size w244 (by omega)) (by rintro e x ⟨N, rfl, h1, h2⟩; exact ⟨_, rfl, N, rfl, h1, h2⟩)) ?_; clear h243
     rintro _ w252 a251 ⟨N255, rfl, hd253, hb256⟩ h251
     have hz257 := hb256.size
     refine pk0 (v := pt N255 0) h251 rfl fun a258 h258 => ?_; clear h251
     refine pl_nil ?_
     refine co_then ?_
     refine co_seq ?_
     refine co_reg ?_
     refine pk0 (v := .int .u8 n) h258 rfl fun a259 h259 => ?_; clear h258
     refine pk (v := .int .i64 n) h259 rfl (rn_conv rfl rfl Try.underlying5 Try.underlying3 (IntWalk.i64_in _ (by omega))) fun a260 h260 => ?_; clear h259
     refine pk0 (v := .int .i64 n) h260 rfl fun a261 h261 => ?_; clear h260
     refine pl_nil ?_
     refine co_then ?_
     refine co_seq ?_
     refine co_seq ?_
     refine co_reg ?_
     refine pk0 (v := .int .i64 0) h261 rfl fun a262 h262 => ?_; clear h261
     refine pl_nil ?_
     refine co_then ?_
     refine wp_block ?_
     have h263 : Slots 108 [(5, pt N6 0), (6, u), (8, pt N255 0), (9, .int .i64 n), (10, .int .i64 0)] _ := h262.sub ⟨rfl, rfl, rfl, rfl, rfl, trivial⟩; clear h262
     refine co_loop (fun mm a x => ∃ (j : Nat) (lf : Int) (Pk : List FlT), Slots 108 [(5, pt N6 0), (6, u), (8, pt N255 0), (9, .int .i64 lf), (10, .int .i64 ((j : Nat) : Int))] a ∧ mm = ((l.take i).filter okW).length - j ∧ (j ≤ ((l.take i).filter okW).length) ∧ (0 ≤ lf ∧ lf ≤ 255) ∧ (trun n ((l.take i).filter okW) = Pk ++ trun lf (((l.take i).filter okW).drop j)) ∧ (Pk.length = j) ∧ (∀ p ∈ Pk, p.2.size ≤ 1048576) ∧ DObj w.heap.size x N6 (2 * (i) + 2 * (wrAll s0D (l.take i)).ps.length) (crS (wrAll s0D (l.take i)) n) ∧ RObj w.heap.size x N255 (⟨[], Pk, 1, 1⟩ : RkS) ∧ x.ownsRow w.heap.size 29 4 u ((l.take i).filter okW).length (((l.take i).filter okW).flatMap actE) ∧ Below w.heap.size w x) (((l.take i).filter okW).length - 0) ?_ ?_
     have hd264 := hd245.call hb256
     have hr265 := rowD hf20 (by unfold offD; decide) hx246
     have hr266 := row_kept_new hr265 (below_grown hb256)
     have hB267 := hb_call hB248 hb256
     · exact ⟨0, n, [], h263.sub ⟨rfl, rfl, rfl, rfl, (slot_eq rfl (congrArg (Value.int .i64) (by first | rfl | omega))), trivial⟩, rfl, by omega, by omega, by first | rfl | exact htr', by first | rfl | (simp; omega), by first | exact hps | (intro p hp; cases hp), (dk_eq hd264 (rfl) (by omega)), (rk_eq hd253 (by first | rfl | exact rwS_y htkx.1)), hr266, hB267⟩
     · rintro k268 a269 w270 ⟨j, lf, Pk, h269, rfl, hi271, hi272, hi273, hi274, hi275, hf276, hf277, hf278, hB279⟩
       have hz280 := hB279.size
       have htr : trun n ((l.take i).filter okW) = Pk ++ trun lf (((l.take i).filter okW).drop j) := by assumption
       have hPs : ∀ p ∈ Pk, p.2.size ≤ 1048576 := by assumption
       refine co_seq ?_
       refine co_seq ?_
       refine co_reg ?_
       refine pk0 (v := .int .i64 ((j : Nat) : Int)) h269 rfl fun a281 h281 => ?_; clear h269
       refine pk0 (v := u) h281 rfl fun a282 h282 => ?_; clear h281
       refine pk (v := .int .i64 ((((l.take i).filter okW).length : Nat) : Int)) h282 rfl (rn_lenOwn rfl rfl Try.underlying22 hf278) fun a283 h283 => ?_; clear h282
       refine pk0 (v := .bool (decide (((j : Nat) : Int) < ((((l.take i).filter okW).length : Nat) : Int)))) h283 rfl fun a284 h284 => ?_; clear h283
       refine pl_nil ?_
       refine co_then ?_
       cases hc285 : (decide (((j : Nat) : Int) < ((((l.take i).filter okW).length : Nat) : Int)))
       ·
        rw [hc285] at h284
        have hp286 : ¬ (((j : Nat) : Int) < ((((l.take i).filter okW).length : Nat) : Int)) := of_decide_eq_false hc285
        clear hc285
        refine co_false h284 rfl ?_
        refine wp_exit ?_
        refine co_thenX ?_
        refine co_thenX ?_
        refine co_blockX ?_
        refine co_then ?_
        refine co_seq ?_
        refine co_seq ?_
        refine co_reg ?_
        refine pk0 (v := .int .i64 0) h284 rfl fun a287 h287 => ?_; clear h284
        refine pl_nil ?_
        refine co_then ?_
        refine wp_block ?_
        have hte := trun_end htr (by omega)
        have h288 : Slots 108 [(5, pt N6 0), (6, u), (8, pt N255 0), (12, .int .i64 0)] _ := h287.sub ⟨rfl, rfl, rfl, rfl, trivial⟩; clear h287
        refine co_loop (fun mm a x => ∃ (q : Nat), Slots 108 [(5, pt N6 0), (6, u), (8, pt N255 0), (12, .int .i64 ((q : Nat) : Int))] a ∧ mm = ((l.take i).filter okW).length - q ∧ (q ≤ ((l.take i).filter okW).length) ∧ DObj w.heap.size x N6 (2 * (i) + 2 * (wrAll s0D (l.take i)).ps.length) (crS (wrAll s0D (l.take i)) n) ∧ RObj w.heap.size x N255 (⟨[], Pk, 1, 1⟩ : RkS) ∧ x.ownsRow w.heap.size 29 4 u ((l.take i).filter okW).length (((l.take i).filter okW).flatMap actE) ∧ Below w.heap.size w x) (((l.take i).filter okW).length - 0) ?_ ?_
        · exact ⟨0, h288.sub ⟨rfl, rfl, rfl, (slot_eq rfl (congrArg (Value.int .i64) (by first | rfl | omega))), trivial⟩, rfl, by omega, (dk_eq hf276 (rfl) (by omega)), (rk_eq hf277 (rfl)), hf278, hB279⟩
        · rintro k289 a290 w291 ⟨q, h290, rfl, hi292, hf293, hf294, hf295, hB296⟩
          have hz297 := hB296.size
          refine co_seq ?_
          refine co_seq ?_
          refine co_reg ?_
          refine pk0 (v := .int .i64 ((q : Nat) : Int)) h290 rfl fun a298 h298 => ?_; clear h290
          refine pk0 (v := u) h298 rfl fun a299 h299 => ?_; clear h298
          refine pk (v := .int .i64 ((((l.take i).filter okW).length : Nat) : Int)) h299 rfl (rn_lenOwn rfl rfl Try.underlying22 hf295) fun a300 h300 => ?_; clear h299
          refine pk0 (v := .bool (decide (((q : Nat) : Int) < ((((l.take i).filter okW).length : Nat) : Int)))) h300 rfl fun a301 h301 => ?_; clear h300
          refine pl_nil ?_
          refine co_then ?_
          cases hc302 : (decide (((q : Nat) : Int) < ((((l.take i).filter okW).length : Nat) : Int)))
          ·
           rw [hc302] at h301
           have hp303 : ¬ (((q : Nat) : Int) < ((((l.take i).filter okW).length : Nat) : Int)) := of_decide_eq_false hc302
           clear hc302
           refine co_false h301 rfl ?_
           refine wp_exit ?_
           refine co_thenX ?_
           refine co_thenX ?_
           refine co_blockX ?_
           refine co_then ?_
           refine co_seq ?_
           refine co_reg ?_
           refine pk0 (v := pt N6 0) h301 rfl fun a304 h304 => ?_; clear h301
           refine pw h304 rfl (op_call (args := #[pt N6 0]) (R := fun res xw => res = .int .i64 (sumP (crS (wrAll s0D (l.take i)) n).ps) ∧ DObj w.heap.size xw N6 (2 * (i) + 2 * (wrAll s0D (l.take i)).ps.length) (crS (wrAll s0D (l.take i)) n) ∧ ButD w.heap.size w291 xw) rfl rfl rfl (by kernel_rfl) (by kernel_rfl) (Try.call24 _ _) (tPending w291 hf293 (((wrAll_I s0_I hok i).crash n).hsb (by omega))) (by rintro e x ⟨rfl, h1, h2⟩; exact ⟨_, rfl, rfl, h1, h2⟩)) ?_; clear h304
           rintro _ w306 a305 ⟨rfl, hd307, hx308⟩ h305
           have hz310 := hx308.size
           have hB309 := (hbD hB296 hx308)
           have hz311 := hB309.size
           refine pk0 (v := .bool (sumP (crS (wrAll s0D (l.take i)) n).ps == 0)) h305 rfl fun a312 h312 => ?_; clear h305
           refine pk0 (v := .bool (sumP (crS (wrAll s0D (l.take i)) n).ps == 0)) h312 rfl fun a313 h313 => ?_; clear h312
           have hc314 : (sumP (crS (wrAll s0D (l.take i)) n).ps == 0) = true := by rfl
           rw [hc314] at h313; clear hc314
           refine pw h313 rfl (op_call (args := #[]) (R := fun res xw => res = .bool true ∧ Below w306.heap.size w306 xw) rfl rfl rfl (by kernel_rfl) (by kernel_rfl) (Try.call20 _ _) (awake11  w306 ) (by rintro e x ⟨rfl, hb317⟩; exact ⟨_, rfl, ⟨rfl, hb317⟩⟩)) ?_; clear h313
           rintro _ w316 a315 ⟨rfl, hb317⟩ h315
           have hz318 := hb317.size
           refine pk0 (v := .bool true) h315 rfl fun a319 h319 => ?_; clear h315
           refine pk0 (v := .bool true) h319 rfl fun a320 h320 => ?_; clear h319
           refine pl_nil ?_
           refine co_then ?_
           refine wp_ret ?_
           refine co_ret1 h320 rfl rfl ?_
           have hB321 := hb_call hB309 hb317
           exact ⟨rfl, hB321⟩
          ·
           rw [hc302] at h301
           have hp322 : ((q : Nat) : Int) < ((((l.take i).filter okW).length : Nat) : Int) := of_decide_eq_true hc302
           clear hc302
           refine co_true h301 rfl ?_
           refine wp_skip ?_
           refine co_then ?_
           refine co_seq ?_
           refine wp_block ?_
           refine co_seq ?_
           refine dr_gen (fun x => Below w.heap.size w x ∧ x.ownsRow w.heap.size 29 4 u (((l.take i).filter okW).length) (((l.take i).filter okW).flatMap actE)) (by kernel_rfl) (fun w323 hg324 => ?_) (fun w323 hg324 => ?_)
           ·
            have hz325 := hg324.size
            have hB326 := hb_new hB296 hg324
            have hr327 := row_kept_new hf295 hg324
            exact ⟨hB326, hr327⟩
           have hz328 := hg324.size
           have hB329 := hb_new hB296 hg324
           have hr330 := row_kept_new hf295 hg324
           refine dk0 0 (v := pt N6 0) h301 rfl rfl ⟨hB329, hr330⟩ fun a331 h331 => ?_; clear h301
           refine dk0 1 (v := u) h331 rfl rfl ⟨hB329, hr330⟩ fun a332 h332 => ?_; clear h331
           refine dk0 2 (v := .int .i64 ((q : Nat) : Int)) h332 rfl rfl ⟨hB329, hr330⟩ fun a333 h333 => ?_; clear h332
           obtain ⟨y334, hy334⟩ : ∃ z, ((l.take i).filter okW)[q]? = some z := ⟨_, List.getElem?_eq_getElem (by first | omega | (simp; done) | (simp; omega))⟩
           have oky334 := (fun (z : ActT) (_ : z ∈ ((l.take i).filter okW)) => trivial) _ (List.mem_of_getElem? hy334)
           have htky334 := ftk_ok hy334; have hszy334 : y334.2.2.1.size ≤ 1048576 := (hok y334 (List.mem_of_mem_take htky334.2)).2.1
           refine dk 3 (v := pt (blkOf u) (offOf u + q * 4)) h333 rfl rfl ⟨hB329, hr330⟩ (fun x hx => (rn_index rfl rfl rfl Try.underlying22 Try.sizeOf29 (row_sl hx.2 actE_len) (by omega) (by first | omega | (simp; done) | (simp; omega)))) fun a335 h335 => ?_; clear h333
           refine dk0 4 (v := pt (blkOf u) (offOf u + q * 4 + 1)) h335 rfl rfl ⟨hB329, hr330⟩ fun a336 h336 => ?_; clear h335
           refine dk 5 (v := .int .i64 y334.2.1) h336 rfl rfl ⟨hB329, hr330⟩ (fun x hx => (rn_load1 rfl rfl Try.isAgg3 ((sl_at (row_sl hx.2 actE_len) hy334) 1 _ rfl))) fun a337 h337 => ?_; clear h336
           refine dk0 7 (v := pt N255 0) h337 rfl rfl ⟨hB329, hr330⟩ fun a338 h338 => ?_; clear h337
           refine dk0 8 (v := u) h338 rfl rfl ⟨hB329, hr330⟩ fun a339 h339 => ?_; clear h338
           refine dk0 9 (v := .int .i64 ((q : Nat) : Int)) h339 rfl rfl ⟨hB329, hr330⟩ fun a340 h340 => ?_; clear h339
           refine dk 10 (v := pt (blkOf u) (offOf u + q * 4)) h340 rfl rfl ⟨hB329, hr330⟩ (fun x hx => (rn_index rfl rfl rfl Try.underlying22 Try.sizeOf29 (row_sl hx.2 actE_len) (by omega) (by first | omega | (simp; done) | (simp; omega)))) fun a341 h341 => ?_; clear h340
           refine dk0 11 (v := pt (blkOf u) (offOf u + q * 4 + 1)) h341 rfl rfl ⟨hB329, hr330⟩ fun a342 h342 => ?_; clear h341
           refine dk 12 (v := .int .i64 y334.2.1) h342 rfl rfl ⟨hB329, hr330⟩ (fun x hx => (rn_load1 rfl rfl Try.isAgg3 ((sl_at (row_sl hx.2 actE_len) hy334) 1 _ rfl))) fun a343 h343 => ?_; clear h342
           have hd348 := hf293.new hg324
           refine d1 6 h343 rfl rfl (op_call (args := #[pt N6 0, .int .i64 y334.2.1]) (R := fun res xw => ∃ sv : ByteArray, res = .string sv ∧ sv = datF (crS (wrAll s0D (l.take i)) n).fm y334.2.1 ∧ DObj w.heap.size xw N6 (2 * (i) + 2 * (wrAll s0D (l.take i)).ps.length) (crS (wrAll s0D (l.take i)) n) ∧ ButD w.heap.size w323 xw) rfl rfl rfl (by kernel_rfl) (by kernel_rfl) (Try.call19 _ _) (tData w323 y334.2.1 hd348) (by rintro e x ⟨rfl, h1, h2⟩; exact ⟨_, rfl, _, rfl, rfl, h1, h2⟩)) ?_ ?_; clear h343
           ·
            rintro _ w345 ⟨sv349, rfl, hsv350, hd346, hx347⟩
            have hz352 := hx347.size
            have hB351 := (hbD hB329 hx347)
            have hz353 := hB351.size
            have hq354 : sv349.size = (datF (crS (wrAll s0D (l.take i)) n).fm y334.2.1 : ByteArray).size := by rw [hsv350]
            have hr355 := rowD hr330 (by unfold offD; decide) hx347
            exact ⟨hB351, hr355⟩
           rintro _ w345 a344 ⟨sv349, rfl, hsv350, hd346, hx347⟩ h344
           have hz352 := hx347.size
           have hB351 := (hbD hB329 hx347)
           have hz353 := hB351.size
           have hq354 : sv349.size = (datF (crS (wrAll s0D (l.take i)) n).fm y334.2.1 : ByteArray).size := by rw [hsv350]
           have hr355 := rowD hr330 (by unfold offD; decide) hx347
           have hd360 := hf294.new hg324
           have hd361 := hd360.disk hx347
           refine d1 13 h344 rfl rfl (op_call (args := #[pt N255 0, .int .i64 y334.2.1]) (R := fun res xw => ∃ sv : ByteArray, res = .string sv ∧ sv = datR (⟨[], Pk, 1, 1⟩ : RkS) y334.2.1 ∧ RObj w.heap.size xw N255 (⟨[], Pk, 1, 1⟩ : RkS) ∧ ButR w.heap.size w345 xw) rfl rfl rfl (by kernel_rfl) (by kernel_rfl) (Try.call27 _ _) (tRData w345 y334.2.1 hd361 (fun z hz => Nat.le_trans (hPs z hz) (by decide)) (fun q => catR_small hPs (by omega) y334.2.1 q)) (by rintro e x ⟨rfl, h1, h2⟩; exact ⟨_, rfl, _, rfl, rfl, h1, h2⟩)) ?_ ?_; clear h344
           ·
            rintro _ w357 ⟨sv362, rfl, hsv363, hd358, hx359⟩
            have hz365 := hx359.size
            have hB364 := (hbR hB351 hx359)
            have hz366 := hB364.size
            have hr367 := rowR hr355 (by unfold offR; decide) hx359
            exact ⟨hB364, hr367⟩
           rintro _ w357 a356 ⟨sv362, rfl, hsv363, hd358, hx359⟩ h356
           have hz365 := hx359.size
           have hB364 := (hbR hB351 hx359)
           have hz366 := hB364.size
           have hr367 := rowR hr355 (by unfold offR; decide) hx359
           refine dk0 14 (v := .bool (!(sv349.toList == sv362.toList))) h356 rfl rfl ⟨hB364, hr367⟩ fun a368 h368 => ?_; clear h356
           refine dr_done (by kernel_rfl) ?_
           refine co_then ?_
           have hc369 : (!(sv349.toList == sv362.toList)) = false := by rw [hsv350, hsv363, ← hte, order_eq hIA hn.1]; simp
           rw [hc369] at h368; clear hc369
           refine co_false h368 rfl ?_
           refine wp_skip ?_
           refine co_blockN ?_
           refine co_then ?_
           refine co_reg ?_
           refine pk0 (v := .int .i64 ((q : Nat) : Int)) h368 rfl fun a370 h370 => ?_; clear h368
           refine pk (v := .int .i64 ((q + 1 : Nat) : Int)) h370 rfl (rn_arith' rfl rfl rfl rfl rfl rfl (IntWalk.i64_in _ (by omega)) (by omega)) fun a371 h371 => ?_; clear h370
           refine pk0 (v := .int .i64 ((q + 1 : Nat) : Int)) h371 rfl fun a372 h372 => ?_; clear h371
           refine pl_nil ?_
           refine co_then ?_
           refine ⟨(((l.take i).filter okW).length - (q + 1)), by omega, ?_⟩
           have hd373 := hd346.doc hx359
           exact ⟨q + 1, h372.sub ⟨rfl, rfl, rfl, rfl, trivial⟩, rfl, by omega, (dk_eq hd373 (rfl) (by omega)), (rk_eq hd358 (rfl)), hr367, hB364⟩
       ·
        rw [hc285] at h284
        have hp374 : ((j : Nat) : Int) < ((((l.take i).filter okW).length : Nat) : Int) := of_decide_eq_true hc285
        clear hc285
        refine co_true h284 rfl ?_
        refine wp_skip ?_
        refine co_then ?_
        refine co_seq ?_
        refine wp_block ?_
        refine co_seq ?_
        refine co_reg ?_
        refine pk0 (v := u) h284 rfl fun a375 h375 => ?_; clear h284
        refine pk0 (v := .int .i64 ((j : Nat) : Int)) h375 rfl fun a376 h376 => ?_; clear h375
        obtain ⟨y377, hy377⟩ : ∃ z, ((l.take i).filter okW)[j]? = some z := ⟨_, List.getElem?_eq_getElem (by first | omega | (simp; done) | (simp; omega))⟩
        have oky377 := (fun (z : ActT) (_ : z ∈ ((l.take i).filter okW)) => trivial) _ (List.mem_of_getElem? hy377)
        have htky377 := ftk_ok hy377; have hszy377 : y377.2.2.1.size ≤ 1048576 := (hok y377 (List.mem_of_mem_take htky377.2)).2.1
        refine pk (v := pt (blkOf u) (offOf u + j * 4)) h376 rfl (rn_index rfl rfl rfl Try.underlying22 Try.sizeOf29 (row_sl hf278 actE_len) (by omega) (by first | omega | (simp; done) | (simp; omega))) fun a378 h378 => ?_; clear h376
        refine pk0 (v := pt (blkOf u) (offOf u + j * 4 + 2)) h378 rfl fun a379 h379 => ?_; clear h378
        refine pk (v := .string y377.2.2.1) h379 rfl (rn_load1 rfl rfl Try.isAgg9 ((sl_at (row_sl hf278 actE_len) hy377) 2 _ rfl)) fun a380 h380 => ?_; clear h379
        refine pk0 (v := .string y377.2.2.1) h380 rfl fun a381 h381 => ?_; clear h380
        refine pl_nil ?_
        refine co_then ?_
        refine co_seq ?_
        refine co_seq ?_
        refine co_reg ?_
        refine pk0 (v := .int .i64 lf) h381 rfl fun a382 h382 => ?_; clear h381
        refine pk0 (v := .string y377.2.2.1) h382 rfl fun a383 h383 => ?_; clear h382
        refine pk (v := .int .i64 ((y377.2.2.1.size : Nat) : Int)) h383 rfl (rn_lenStr rfl rfl Try.underlying9) fun a384 h384 => ?_; clear h383
        refine pk0 (v := .bool (decide (lf < ((y377.2.2.1.size : Nat) : Int)))) h384 rfl fun a385 h385 => ?_; clear h384
        refine pl_nil ?_
        refine co_then ?_
        cases hc386 : (decide (lf < ((y377.2.2.1.size : Nat) : Int)))
        ·
         rw [hc386] at h385
         have hp387 : ¬ (lf < ((y377.2.2.1.size : Nat) : Int)) := of_decide_eq_false hc386
         clear hc386
         refine co_false h385 rfl ?_
         refine wp_skip ?_
         refine co_then ?_
         refine co_seq ?_
         refine co_reg ?_
         refine pk0 (v := pt N255 0) h385 rfl fun a388 h388 => ?_; clear h385
         refine pk0 (v := u) h388 rfl fun a389 h389 => ?_; clear h388
         refine pk0 (v := .int .i64 ((j : Nat) : Int)) h389 rfl fun a390 h390 => ?_; clear h389
         refine pk (v := pt (blkOf u) (offOf u + j * 4)) h390 rfl (rn_index rfl rfl rfl Try.underlying22 Try.sizeOf29 (row_sl hf278 actE_len) (by omega) (by first | omega | (simp; done) | (simp; omega))) fun a391 h391 => ?_; clear h390
         refine pk0 (v := pt (blkOf u) (offOf u + j * 4 + 1)) h391 rfl fun a392 h392 => ?_; clear h391
         refine pk (v := .int .i64 y377.2.1) h392 rfl (rn_load1 rfl rfl Try.isAgg3 ((sl_at (row_sl hf278 actE_len) hy377) 1 _ rfl)) fun a393 h393 => ?_; clear h392
         refine pk0 (v := .string y377.2.2.1) h393 rfl fun a394 h394 => ?_; clear h393
         refine pw h394 rfl (op_call (args := #[pt N255 0, .int .i64 y377.2.1, .string y377.2.2.1]) (R := fun res xw => res = .int .i64 (wrE y377.2.1) ∧ RObj w.heap.size xw N255 (rwS (⟨[], Pk, 1, 1⟩ : RkS) y377.2.1 y377.2.2.1) ∧ ButR w.heap.size w270 xw) rfl rfl rfl (by kernel_rfl) (by kernel_rfl) (Try.call26 _ _) (tRWrite w270 y377.2.1 y377.2.2.1 hf277 (by show Pk.length ≤ 100000; omega)) (by rintro e x ⟨rfl, h1, h2⟩; exact ⟨_, rfl, rfl, h1, h2⟩)) ?_; clear h394
         rintro _ w396 a395 ⟨rfl, hd397, hx398⟩ h395
         have hz400 := hx398.size
         have hB399 := (hbR hB279 hx398)
         have hz401 := hB399.size
         refine pl_nil ?_
         refine co_then ?_
         refine co_reg ?_
         refine pk0 (v := .int .i64 lf) h395 rfl fun a402 h402 => ?_; clear h395
         refine pk0 (v := .string y377.2.2.1) h402 rfl fun a403 h403 => ?_; clear h402
         refine pk (v := .int .i64 ((y377.2.2.1.size : Nat) : Int)) h403 rfl (rn_lenStr rfl rfl Try.underlying9) fun a404 h404 => ?_; clear h403
         refine pk (v := .int .i64 (lf - ((y377.2.2.1.size : Nat) : Int))) h404 rfl (rn_arith rfl rfl rfl rfl rfl rfl (IntWalk.i64_in _ (by omega))) fun a405 h405 => ?_; clear h404
         refine pk0 (v := .int .i64 (lf - ((y377.2.2.1.size : Nat) : Int))) h405 rfl fun a406 h406 => ?_; clear h405
         refine pl_nil ?_
         refine co_blockN ?_
         refine co_then ?_
         refine co_reg ?_
         refine pk0 (v := .int .i64 ((j : Nat) : Int)) h406 rfl fun a407 h407 => ?_; clear h406
         refine pk (v := .int .i64 ((j + 1 : Nat) : Int)) h407 rfl (rn_arith' rfl rfl rfl rfl rfl rfl (IntWalk.i64_in _ (by omega)) (by omega)) fun a408 h408 => ?_; clear h407
         refine pk0 (v := .int .i64 ((j + 1 : Nat) : Int)) h408 rfl fun a409 h409 => ?_; clear h408
         refine pl_nil ?_
         refine co_then ?_
         refine ⟨(((l.take i).filter okW).length - (j + 1)), by omega, ?_⟩
         have hcut : cutS lf y377.2.2.1 = y377.2.2.1 := by unfold cutS; rw [if_neg (by omega)]
         have htr' := trun_step htr hy377 hcut
         have hps : ∀ p ∈ Pk ++ [(y377.2.1, y377.2.2.1)], p.2.size ≤ 1048576 := by intro p hp; rcases List.mem_append.1 hp with hp | hp; exact hPs p hp; simp at hp; subst hp; show (y377.2.2.1 : ByteArray).size ≤ 1048576; omega
         have hd410 := hf276.doc hx398
         have hr411 := rowR hf278 (by unfold offR; decide) hx398
         exact ⟨j + 1, (lf - ((y377.2.2.1.size : Nat) : Int)), (Pk ++ [(y377.2.1, y377.2.2.1)]), h409.sub ⟨rfl, rfl, rfl, rfl, rfl, trivial⟩, rfl, by omega, by omega, by first | rfl | exact htr', by first | rfl | (simp; omega), by first | exact hps | (intro p hp; cases hp), (dk_eq hd410 (rfl) (by omega)), (rk_eq hd397 (by first | rfl | exact rwS_y htky377.1)), hr411, hB399⟩
        ·
         rw [hc386] at h385
         have hp412 : lf < ((y377.2.2.1.size : Nat) : Int) := of_decide_eq_true hc386
         clear hc386
         refine co_true h385 rfl ?_
         refine co_reg ?_
         refine pk0 (v := .string y377.2.2.1) h385 rfl fun a413 h413 => ?_; clear h385
         refine pk0 (v := .int .i64 lf) h413 rfl fun a414 h414 => ?_; clear h413
         refine pk (v := .string (y377.2.2.1.extract 0 ((lf).toNat))) h414 rfl (rn_sliceStrTo (j := ((lf).toNat)) rfl rfl rfl Try.underlying9 (by omega) (by omega)) fun a415 h415 => ?_; clear h414
         refine pk0 (v := .string (y377.2.2.1.extract 0 ((lf).toNat))) h415 rfl fun a416 h416 => ?_; clear h415
         refine pl_nil ?_
         refine co_then ?_
         refine co_seq ?_
         refine co_reg ?_
         refine pk0 (v := pt N255 0) h416 rfl fun a417 h417 => ?_; clear h416
         refine pk0 (v := u) h417 rfl fun a418 h418 => ?_; clear h417
         refine pk0 (v := .int .i64 ((j : Nat) : Int)) h418 rfl fun a419 h419 => ?_; clear h418
         refine pk (v := pt (blkOf u) (offOf u + j * 4)) h419 rfl (rn_index rfl rfl rfl Try.underlying22 Try.sizeOf29 (row_sl hf278 actE_len) (by omega) (by first | omega | (simp; done) | (simp; omega))) fun a420 h420 => ?_; clear h419
         refine pk0 (v := pt (blkOf u) (offOf u + j * 4 + 1)) h420 rfl fun a421 h421 => ?_; clear h420
         refine pk (v := .int .i64 y377.2.1) h421 rfl (rn_load1 rfl rfl Try.isAgg3 ((sl_at (row_sl hf278 actE_len) hy377) 1 _ rfl)) fun a422 h422 => ?_; clear h421
         refine pk0 (v := .string (y377.2.2.1.extract 0 ((lf).toNat))) h422 rfl fun a423 h423 => ?_; clear h422
         have hex := ext_size y377.2.2.1 lf.toNat (by omega)
         refine pw h423 rfl (op_call (args := #[pt N255 0, .int .i64 y377.2.1, .string (y377.2.2.1.extract 0 ((lf).toNat))]) (R := fun res xw => res = .int .i64 (wrE y377.2.1) ∧ RObj w.heap.size xw N255 (rwS (⟨[], Pk, 1, 1⟩ : RkS) y377.2.1 (y377.2.2.1.extract 0 ((lf).toNat))) ∧ ButR w.heap.size w270 xw) rfl rfl rfl (by kernel_rfl) (by kernel_rfl) (Try.call26 _ _) (tRWrite w270 y377.2.1 (y377.2.2.1.extract 0 ((lf).toNat)) hf277 (by show Pk.length ≤ 100000; omega)) (by rintro e x ⟨rfl, h1, h2⟩; exact ⟨_, rfl, rfl, h1, h2⟩)) ?_; clear h423
         rintro _ w425 a424 ⟨rfl, hd426, hx427⟩ h424
         have hz429 := hx427.size
         have hB428 := (hbR hB279 hx427)
         have hz430 := hB428.size
         refine pl_nil ?_
         refine co_then ?_
         refine co_reg ?_
         refine pk0 (v := .int .i64 lf) h424 rfl fun a431 h431 => ?_; clear h424
         refine pk0 (v := .string (y377.2.2.1.extract 0 ((lf).toNat))) h431 rfl fun a432 h432 => ?_; clear h431
         refine pk (v := .int .i64 (((y377.2.2.1.extract 0 ((lf).toNat) : ByteArray).size : Nat) : Int)) h432 rfl (rn_lenStr rfl rfl Try.underlying9) fun a433 h433 => ?_; clear h432
         refine pk (v := .int .i64 (lf - (((y377.2.2.1.extract 0 ((lf).toNat) : ByteArray).size : Nat) : Int))) h433 rfl (rn_arith rfl rfl rfl rfl rfl rfl (IntWalk.i64_in _ (by omega))) fun a434 h434 => ?_; clear h433
         refine pk0 (v := .int .i64 (lf - (((y377.2.2.1.extract 0 ((lf).toNat) : ByteArray).size : Nat) : Int))) h434 rfl fun a435 h435 => ?_; clear h434
         refine pl_nil ?_
         refine co_blockN ?_
         refine co_then ?_
         refine co_reg ?_
         refine pk0 (v := .int .i64 ((j : Nat) : Int)) h435 rfl fun a436 h436 => ?_; clear h435
         refine pk (v := .int .i64 ((j + 1 : Nat) : Int)) h436 rfl (rn_arith' rfl rfl rfl rfl rfl rfl (IntWalk.i64_in _ (by omega)) (by omega)) fun a437 h437 => ?_; clear h436
         refine pk0 (v := .int .i64 ((j + 1 : Nat) : Int)) h437 rfl fun a438 h438 => ?_; clear h437
         refine pl_nil ?_
         refine co_then ?_
         refine ⟨(((l.take i).filter okW).length - (j + 1)), by omega, ?_⟩
         have hcut : cutS lf y377.2.2.1 = y377.2.2.1.extract 0 ((lf).toNat) := by unfold cutS; rw [if_pos (by omega)]
         have htr' := trun_step htr hy377 hcut
         have hps : ∀ p ∈ Pk ++ [(y377.2.1, y377.2.2.1.extract 0 ((lf).toNat))], p.2.size ≤ 1048576 := by intro p hp; rcases List.mem_append.1 hp with hp | hp; exact hPs p hp; simp at hp; subst hp; show (y377.2.2.1.extract 0 ((lf).toNat) : ByteArray).size ≤ 1048576; omega
         have hd439 := hf276.doc hx427
         have hr440 := rowR hf278 (by unfold offR; decide) hx427
         exact ⟨j + 1, (lf - (((y377.2.2.1.extract 0 ((lf).toNat) : ByteArray).size : Nat) : Int)), (Pk ++ [(y377.2.1, y377.2.2.1.extract 0 ((lf).toNat))]), h438.sub ⟨rfl, rfl, rfl, rfl, rfl, trivial⟩, rfl, by omega, by omega, by first | rfl | exact htr', by first | rfl | (simp; omega), by first | exact hps | (intro p hp; cases hp), (dk_eq hd439 (rfl) (by omega)), (rk_eq hd426 (by first | rfl | exact rwS_y htky377.1)), hr440, hB428⟩
    ·
     rw [hc238] at h237
     have hp441 : ((i : Nat) : Int) < 20 := of_decide_eq_true hc238
     clear hc238
     refine co_true h237 rfl ?_
     refine wp_skip ?_
     refine co_then ?_
     refine co_seq ?_
     refine wp_block ?_
     refine co_seq ?_
     refine dr_gen (fun x => Below w.heap.size w x) (by kernel_rfl) (fun w442 hg443 => ?_) (fun w442 hg443 => ?_)
     ·
      have hz444 := hg443.size
      have hB445 := hb_new hB21 hg443
      exact hB445
     have hz446 := hg443.size
     have hB447 := hb_new hB21 hg443
     refine dk0 0 (v := pt N6 0) h237 rfl rfl hB447 fun a448 h448 => ?_; clear h237
     refine dk0 1 (v := v) h448 rfl rfl hB447 fun a449 h449 => ?_; clear h448
     refine dk0 2 (v := .int .i64 ((i : Nat) : Int)) h449 rfl rfl hB447 fun a450 h450 => ?_; clear h449
     obtain ⟨y451, hy451⟩ : ∃ z, l[i]? = some z := ⟨_, List.getElem?_eq_getElem (by first | omega | (simp; done) | (simp; omega))⟩
     have oky451 := hok _ (List.mem_of_getElem? hy451)
     have k452 : -9223372036854775808 ≤ y451.2.1 ∧ y451.2.1 ≤ 9223372036854775807 := oky451.1
     have k453 : y451.2.2.1.size ≤ 1048576 := oky451.2.1
     refine dk 3 (v := pt (blkOf v) (offOf v + i * 4)) h450 rfl rfl hB447 (fun x hx => (rn_index rfl rfl rfl Try.underlying22 Try.sizeOf29 (hs.below hx) (by omega) (by first | omega | (simp; done) | (simp; omega)))) fun a454 h454 => ?_; clear h450
     refine dk0 4 (v := pt (blkOf v) (offOf v + i * 4 + 1)) h454 rfl rfl hB447 fun a455 h455 => ?_; clear h454
     refine dk 5 (v := .int .i64 y451.2.1) h455 rfl rfl hB447 (fun x hx => (rn_load1 rfl rfl Try.isAgg3 ((sl_at (hs.below hx) hy451) 1 _ rfl))) fun a456 h456 => ?_; clear h455
     refine dk0 6 (v := v) h456 rfl rfl hB447 fun a457 h457 => ?_; clear h456
     refine dk0 7 (v := .int .i64 ((i : Nat) : Int)) h457 rfl rfl hB447 fun a458 h458 => ?_; clear h457
     refine dk 8 (v := pt (blkOf v) (offOf v + i * 4)) h458 rfl rfl hB447 (fun x hx => (rn_index rfl rfl rfl Try.underlying22 Try.sizeOf29 (hs.below hx) (by omega) (by first | omega | (simp; done) | (simp; omega)))) fun a459 h459 => ?_; clear h458
     refine dk0 9 (v := pt (blkOf v) (offOf v + i * 4 + 2)) h459 rfl rfl hB447 fun a460 h460 => ?_; clear h459
     refine dk 10 (v := .string y451.2.2.1) h460 rfl rfl hB447 (fun x hx => (rn_load1 rfl rfl Try.isAgg9 ((sl_at (hs.below hx) hy451) 2 _ rfl))) fun a461 h461 => ?_; clear h460
     have hd466 := hf19.new hg443
     refine d1 11 h461 rfl rfl (op_call (args := #[pt N6 0, .int .i64 y451.2.1, .string y451.2.2.1]) (R := fun res xw => res = .int .i64 (wrE y451.2.1) ∧ DObj w.heap.size xw N6 (i + 1) (wrS (wrAll s0D (l.take i)) y451.2.1 y451.2.2.1) ∧ ButD w.heap.size w442 xw) rfl rfl rfl (by kernel_rfl) (by kernel_rfl) (Try.call21 _ _) (tWrite w442 y451.2.1 y451.2.2.1 hd466 ((wrAll_I s0_I hok i).hsz (by omega) y451.2.1 oky451.2.1) ((wrAll_I s0_I hok i).hpl (by omega))) (by rintro e x ⟨rfl, h1, h2⟩; exact ⟨_, rfl, rfl, h1, h2⟩)) ?_ ?_; clear h461
     ·
      rintro _ w463 ⟨rfl, hd464, hx465⟩
      have hz468 := hx465.size
      have hB467 := (hbD hB447 hx465)
      have hz469 := hB467.size
      exact hB467
     rintro _ w463 a462 ⟨rfl, hd464, hx465⟩ h462
     have hz468 := hx465.size
     have hB467 := (hbD hB447 hx465)
     have hz469 := hB467.size
     refine dk0 12 (v := .bool (wrE y451.2.1 == 0)) h462 rfl rfl hB467 fun a470 h470 => ?_; clear h462
     refine dr_done (by kernel_rfl) ?_
     refine co_then ?_
     have hr472 := row_kept_new hf20 hg443
     have hr473 := rowD hr472 (by unfold offD; decide) hx465
     cases hc471 : (wrE y451.2.1 == 0)
     ·
      rw [hc471] at h470
      have hp474 : ¬ (wrE y451.2.1 = 0) := by first | simpa using hc471 | simpa [and_assoc] using hc471
      clear hc471
      refine co_false h470 rfl ?_
      refine wp_skip ?_
      refine co_blockN ?_
      refine co_then ?_
      refine co_reg ?_
      refine pk0 (v := .int .i64 ((i : Nat) : Int)) h470 rfl fun a475 h475 => ?_; clear h470
      refine pk (v := .int .i64 ((i + 1 : Nat) : Int)) h475 rfl (rn_arith' rfl rfl rfl rfl rfl rfl (IntWalk.i64_in _ (by omega)) (by omega)) fun a476 h476 => ?_; clear h475
      refine pk0 (v := .int .i64 ((i + 1 : Nat) : Int)) h476 rfl fun a477 h477 => ?_; clear h476
      refine pl_nil ?_
      refine co_then ?_
      refine ⟨(l.length - (i + 1)), by omega, ?_⟩
      exact ⟨i + 1, u, h477.sub ⟨rfl, rfl, rfl, rfl, rfl, trivial⟩, rfl, by omega, by omega, (dk_eq hd464 (by first | rfl | exact (wrAll_at (by assumption)).symm) (by omega)), (row_eq hr473 (by first | rfl | exact ftk_y (by assumption) (by omega) | exact ftk_n (by assumption) (by omega))), hB467⟩
     ·
      rw [hc471] at h470
      have hp478 : wrE y451.2.1 = 0 := by first | simpa using hc471 | simpa [and_assoc] using hc471
      clear hc471
      refine co_true h470 rfl ?_
      refine co_reg ?_
      refine pk0 (v := u) h470 rfl fun a479 h479 => ?_; clear h470
      refine pk0 (v := v) h479 rfl fun a480 h480 => ?_; clear h479
      refine pk0 (v := .int .i64 ((i : Nat) : Int)) h480 rfl fun a481 h481 => ?_; clear h480
      refine pk (v := pt (blkOf v) (offOf v + i * 4)) h481 rfl (rn_index rfl rfl rfl Try.underlying22 Try.sizeOf29 (hs.below hB467) (by omega) (by first | omega | (simp; done) | (simp; omega))) fun a482 h482 => ?_; clear h481
      refine pk (v := .agg #[.int .i64 y451.1, .int .i64 y451.2.1, .string y451.2.2.1, .int .i64 y451.2.2.2]) h482 rfl (rn_loadN rfl rfl Try.underlying29 rfl (by kernel_rfl) (sl_at (hs.below hB467) hy451)) fun a483 h483 => ?_; clear h482
      refine pw h483 rfl (op_new (v := fun N => .slice (some ⟨N, 0, none⟩) 1 1) (T := 29) (cs := #[.int .i64 y451.1, .int .i64 y451.2.1, .string y451.2.2.1, .int .i64 y451.2.2.2]) (by kernel_rfl) (by kernel_rfl) (by kernel_rfl)) ?_; clear h483
      rintro _ w485 a484 ⟨N486, rfl, hN489, hz490, hk488, hg487⟩ h484
      have ha491 := row_fresh hr473 hN489
      have hz492 := hg487.size
      try dsimp only at h484
      have hr499 := row_kept_new hr473 hg487
      refine pw h484 rfl (op_append rfl w.heap.size 29 (z := .agg #[.int .i64 0, .int .i64 0, .string (⟨#[]⟩), .int .i64 0]) (size := 4) (bytes := 40) Try.underlying22 (by kernel_rfl) rfl rfl rfl hr499 rfl hk488 rfl (by kernel_rfl) (by first | omega | (simp only [List.length_nil, List.length_append, List.length_cons, List.length_take, List.length_drop]; omega)) (by first | omega | (simp only [List.length_nil, List.length_append, List.length_cons, List.length_take, List.length_drop]; omega)) (by omega)) ?_; clear h484
      rintro v495 w494 a493 ⟨hr496, hg497⟩ h493
      have hr496' : w494.ownsRow w.heap.size 29 4 v495 (((l.take i).filter okW ++ [(y451.1, y451.2.1, y451.2.2.1, y451.2.2.2)]).length) (((l.take i).filter okW ++ [(y451.1, y451.2.1, y451.2.2.1, y451.2.2.2)]).flatMap actE) := row_push (y := (y451.1, y451.2.1, y451.2.2.1, y451.2.2.2)) hr496 rfl rfl; clear hr496
      have hz500 := hg497.size
      refine pk0 (v := v495) h493 rfl fun a501 h501 => ?_; clear h493
      refine pl_nil ?_
      refine co_blockN ?_
      refine co_then ?_
      refine co_reg ?_
      refine pk0 (v := .int .i64 ((i : Nat) : Int)) h501 rfl fun a502 h502 => ?_; clear h501
      refine pk (v := .int .i64 ((i + 1 : Nat) : Int)) h502 rfl (rn_arith' rfl rfl rfl rfl rfl rfl (IntWalk.i64_in _ (by omega)) (by omega)) fun a503 h503 => ?_; clear h502
      refine pk0 (v := .int .i64 ((i + 1 : Nat) : Int)) h503 rfl fun a504 h504 => ?_; clear h503
      refine pl_nil ?_
      refine co_then ?_
      refine ⟨(l.length - (i + 1)), by omega, ?_⟩
      have hd505 := hd464.new hg487
      have hd506 := hd505.row hr499 (by unfold offD; decide) hg497
      have hB507 := hb_new hB467 hg487
      have hB508 := hb_row hB507 hr499 (by omega) hg497
      exact ⟨i + 1, v495, h504.sub ⟨rfl, rfl, rfl, rfl, rfl, trivial⟩, rfl, by omega, by omega, (dk_eq hd506 (by first | rfl | exact (wrAll_at (by assumption)).symm) (by omega)), (row_eq hr496' (by first | rfl | exact ftk_y (by assumption) (by omega) | exact ftk_n (by assumption) (by omega))), hB508⟩
theorem diskOrder_c {m : Nat} (v : Value) (l : List ActT) (n : Int) (w : World) (s1 : SliceOf actE 4 w v l) (g1 : ∀ z ∈ l, ActOkm m z) (hn : (Lit.int .u8 n).wf = true) (b1 : m ≤ 1048576) :
    Calls Try.prog 5 #[v, .int .u8 n] w fun e w' => e = .returned (.bool true) ∧ Below w.heap.size w w' :=
  diskOrder_law v l n w s1 (acts_ok g1 b1) (wf_u8 hn)
end Go.Proofs.Ytcnahhobppnbbaa
