/- Put together: ScrNSb. Conditions: as each says. -/
import Derived.Test.YtdgboikkgeioeaaSd3
import Derived.Test.YtdgboikkgeioeaaSd2
/- catenalaw40: ScriptBack. Conditions: texts of at most 1048576 bytes. -/
namespace Go.Proofs.Ytdgboikkgeioeaa
open Go.RowKit Go.PlainAid
set_option linter.unusedVariables false
set_option linter.unusedSimpArgs false


def SLw (w : World) (u : Value) (l : List OpT) : Prop := SliceOf opE 3 w u l
theorem SLw.new {w x : World} {u : Value} {l : List OpT} (h : SLw w u l) (hg : w.grownBy x none) : SLw x u l := SliceOf.below h (grown_below hg)
theorem SLw.below {w x : World} {u : Value} {l : List OpT} (h : SLw w u l) (hb : Below w.heap.size w x) : SLw x u l := SliceOf.below h hb
theorem cl_snoc {us l : List EvX} {i : Nat} {y : EvX} {u : Value} (h : us.map EvX.d = (l.take i).map (fun z => cleanE z.d)) (hy : l[i]? = some y) : (us ++ [EvX.mk (cleanE y.d) u]).map EvX.d = (l.take (i + 1)).map (fun z => cleanE z.d) := by
  rw [List.take_add_one, hy, List.map_append, h]; simp

set_option maxRecDepth 100000 in
set_option maxHeartbeats 3200000 in
theorem scriptBack_any (v : Value) (l : List EvX) (s : ByteArray) (w : World) (hs : SliceOf evE 10 w v l) (hok : ∀ z ∈ l, EvOk w z) (h100 : ptsE (l.take 400) ≤ 20 → l.length ≤ 100 → ∀ z ∈ l, z.d.ops.length ≤ 100) :
    Calls Try.prog 6 #[v, .string s] w fun e w' => e = .returned (.bool true) ∧ Below w.heap.size w w' := by
 have hB0 := Below.refl w.heap.size w
 have hl_hs := sl_len hs
 refine co_enter (n := 82) Try.func6 rfl rfl rfl [(0, v), (1, .string s)] rfl (fun a h0 => ?_)
 refine co_seq ?_
 refine co_reg ?_
 refine pk0 (v := .bool false) h0 rfl fun a1 h1 => ?_; clear h0
 refine pl_nil ?_
 refine co_then ?_
 refine co_seq ?_
 refine co_seq ?_
 refine co_reg ?_
 refine pk0 (v := v) h1 rfl fun a2 h2 => ?_; clear h1
 refine pw h2 rfl (op_call (args := #[v]) (R := fun res xw => res = .int .i64 (ptsE (l.take 400)) ∧ Below w.heap.size w xw) rfl rfl rfl (by kernel_rfl) (by kernel_rfl) (Try.call16 _ _) (parts36_any v l w hs (fun z hz => ⟨(hok z hz).sl.below hB0, (hok z hz).s⟩)) (by rintro e x ⟨rfl, hb5⟩; exact ⟨_, rfl, ⟨rfl, hb5⟩⟩)) ?_; clear h2
 rintro _ w4 a3 ⟨rfl, hb5⟩ h3
 have hz6 := hb5.size
 refine pk0 (v := .bool (decide (ptsE (l.take 400) > 20))) h3 rfl fun a7 h7 => ?_; clear h3
 refine pk0 (v := .bool (decide (ptsE (l.take 400) > 20))) h7 rfl fun a8 h8 => ?_; clear h7
 have hB10 := hb_call hB0 hb5
 cases hc9 : (decide (ptsE (l.take 400) > 20))
 ·
  rw [hc9] at h8
  have hp11 : ¬ (ptsE (l.take 400) > 20) := of_decide_eq_false hc9
  clear hc9
  refine pk0 (v := v) h8 rfl fun a12 h12 => ?_; clear h8
  refine pk (v := .int .i64 ((l.length : Nat) : Int)) h12 rfl (rn_len rfl rfl Try.underlying50 (hs.below hB10)) fun a13 h13 => ?_; clear h12
  refine pk0 (v := .bool (decide (((l.length : Nat) : Int) > 100))) h13 rfl fun a14 h14 => ?_; clear h13
  refine pk0 (v := .bool (decide (((l.length : Nat) : Int) > 100))) h14 rfl fun a15 h15 => ?_; clear h14
  refine pk0 (v := .bool (decide (((l.length : Nat) : Int) > 100))) h15 rfl fun a16 h16 => ?_; clear h15
  cases hc17 : (decide (((l.length : Nat) : Int) > 100))
  ·
   rw [hc17] at h16
   have hp18 : ¬ (((l.length : Nat) : Int) > 100) := of_decide_eq_false hc17
   clear hc17
   refine pk0 (v := .string s) h16 rfl fun a19 h19 => ?_; clear h16
   refine pk (v := .int .i64 ((s.size : Nat) : Int)) h19 rfl (rn_lenStr rfl rfl Try.underlying9) fun a20 h20 => ?_; clear h19
   refine pk0 (v := .bool (decide (((s.size : Nat) : Int) > 4000))) h20 rfl fun a21 h21 => ?_; clear h20
   refine pk0 (v := .bool (decide (((s.size : Nat) : Int) > 4000))) h21 rfl fun a22 h22 => ?_; clear h21
   refine pl_nil ?_
   refine co_then ?_
   cases hc23 : (decide (((s.size : Nat) : Int) > 4000))
   ·
    rw [hc23] at h22
    have hp24 : ¬ (((s.size : Nat) : Int) > 4000) := of_decide_eq_false hc23
    clear hc23
    refine co_false h22 rfl ?_
    refine wp_skip ?_
    refine co_then ?_
    refine co_seq ?_
    refine co_reg ?_
    refine pk0 (v := v) h22 rfl fun a25 h25 => ?_; clear h22
    refine pw h25 rfl (op_call (args := #[v]) (R := fun res xw => res = .tuple #[.string (putA (l.map EvX.d)), .int .i64 (allE (l.map EvX.d))] ∧ Below w4.heap.size w4 xw) rfl rfl rfl (by kernel_rfl) (by kernel_rfl) (Try.call18 _ _) (scPut_any v l w4 (hs.below hB10) (fun z hz => ⟨(hok z hz).sl.below hB10, (hok z hz).s⟩) (h100 (by omega) (by omega)) (by omega)) (by rintro e x ⟨rfl, hb28⟩; exact ⟨_, rfl, ⟨rfl, hb28⟩⟩)) ?_; clear h25
    rintro _ w27 a26 ⟨rfl, hb28⟩ h26
    have hz29 := hb28.size
    have hpll := putA_len (l.map EvX.d); rw [List.length_map] at hpll
    refine pk0 (v := .tuple #[.string (putA (l.map EvX.d)), .int .i64 (allE (l.map EvX.d))]) h26 rfl fun a30 h30 => ?_; clear h26
    refine pk0 (v := .string (putA (l.map EvX.d))) h30 rfl fun a31 h31 => ?_; clear h30
    refine pk0 (v := .int .i64 (allE (l.map EvX.d))) h31 rfl fun a32 h32 => ?_; clear h31
    refine pk0 (v := .string (putA (l.map EvX.d))) h32 rfl fun a33 h33 => ?_; clear h32
    refine pk0 (v := .int .i64 (allE (l.map EvX.d))) h33 rfl fun a34 h34 => ?_; clear h33
    refine pl_nil ?_
    refine co_then ?_
    refine co_seq ?_
    refine co_seq ?_
    refine co_reg ?_
    refine pk0 (v := .int .i64 (allE (l.map EvX.d))) h34 rfl fun a35 h35 => ?_; clear h34
    refine pk0 (v := .bool (allE (l.map EvX.d) == 0)) h35 rfl fun a36 h36 => ?_; clear h35
    refine pl_nil ?_
    refine co_then ?_
    have hB38 := hb_call hB10 hb28
    cases hc37 : (allE (l.map EvX.d) == 0)
    ·
     rw [hc37] at h36
     have hp39 : ¬ (allE (l.map EvX.d) = 0) := by first | simpa using hc37 | simpa [and_assoc] using hc37
     clear hc37
     refine co_false h36 rfl ?_
     refine wp_skip ?_
     refine co_then ?_
     refine co_seq ?_
     refine co_reg ?_
     refine pk0 (v := .string s) h36 rfl fun a40 h40 => ?_; clear h36
     refine pw h40 rfl (op_call (args := #[.string s]) (R := fun res xw => ∃ us : List EvX, us.map EvX.d = stepsR s ∧ xw.ownsRow w27.heap.size 60 10 res us.length (us.flatMap evE) ∧ (∀ z ∈ us, xw.ownsRow w27.heap.size 66 3 z.ov z.d.ops.length (z.d.ops.flatMap opE)) ∧ Below w27.heap.size w27 xw) rfl rfl rfl (by kernel_rfl) (by kernel_rfl) (Try.call21 _ _) (scOf_any s w27 (by omega)) (by rintro e x ⟨v, us, rfl, h⟩; exact ⟨_, rfl, us, h⟩)) ?_; clear h40
     rintro u43 w42 a41 ⟨us44, hm45, hr46, ho47, hb48⟩ h41
     have hz49 := hb48.size
     have hk50 := (NR.of (k := 0) ho47).ok hm45
     have hk51 := hk50.2.2
     refine pk0 (v := u43) h41 rfl fun a52 h52 => ?_; clear h41
     refine pl_nil ?_
     refine co_then ?_
     refine co_seq ?_
     refine co_reg ?_
     refine pk0 (v := u43) h52 rfl fun a53 h53 => ?_; clear h52
     refine pw h53 rfl (op_call (args := #[u43]) (R := fun res xw => res = .tuple #[.string (putA (us44.map EvX.d)), .int .i64 (allE (us44.map EvX.d))] ∧ Below w42.heap.size w42 xw) rfl rfl rfl (by kernel_rfl) (by kernel_rfl) (Try.call18 _ _) (scPut_any u43 us44 w42 (row_sl hr46 evE_len) (fun z hz => ⟨((NR.of (k := 0) ho47).sl z hz).sl, (hk50.1 z hz).s⟩) hk50.2.1 (by omega)) (by rintro e x ⟨rfl, hb56⟩; exact ⟨_, rfl, ⟨rfl, hb56⟩⟩)) ?_; clear h53
     rintro _ w55 a54 ⟨rfl, hb56⟩ h54
     have hz57 := hb56.size
     have hplus44 := putA_len (us44.map EvX.d); rw [List.length_map] at hplus44
     have haeus44 := (back_tail hm45).1
     refine pk0 (v := .tuple #[.string (putA (us44.map EvX.d)), .int .i64 (allE (us44.map EvX.d))]) h54 rfl fun a58 h58 => ?_; clear h54
     refine pk0 (v := .string (putA (us44.map EvX.d))) h58 rfl fun a59 h59 => ?_; clear h58
     refine pk0 (v := .int .i64 (allE (us44.map EvX.d))) h59 rfl fun a60 h60 => ?_; clear h59
     refine pk0 (v := .string (putA (us44.map EvX.d))) h60 rfl fun a61 h61 => ?_; clear h60
     refine pk0 (v := .int .i64 (allE (us44.map EvX.d))) h61 rfl fun a62 h62 => ?_; clear h61
     refine pl_nil ?_
     refine co_then ?_
     refine co_seq ?_
     refine co_reg ?_
     refine pk0 (v := .int .i64 (allE (us44.map EvX.d))) h62 rfl fun a63 h63 => ?_; clear h62
     refine pk0 (v := .bool (allE (us44.map EvX.d) == 0)) h63 rfl fun a64 h64 => ?_; clear h63
     refine pk0 (v := .bool (allE (us44.map EvX.d) == 0)) h64 rfl fun a65 h65 => ?_; clear h64
     have hc66 : (allE (us44.map EvX.d) == 0) = true := by first | (simp; done) | (simp; omega) | exact beq_false_of_ne (by omega) | exact beq_iff_eq.2 (by omega)
     rw [hc66] at h65; clear hc66
     refine pk0 (v := .string (putA (us44.map EvX.d))) h65 rfl fun a67 h67 => ?_; clear h65
     have hB70 := hb_call hB38 hb48
     have hB71 := hb_call hB70 hb56
     refine pw h67 rfl (op_call (args := #[.string (putA (us44.map EvX.d))]) (R := fun res xw => ∃ us : List EvX, us.map EvX.d = stepsR (putA (us44.map EvX.d)) ∧ xw.ownsRow w55.heap.size 60 10 res us.length (us.flatMap evE) ∧ (∀ z ∈ us, xw.ownsRow w55.heap.size 66 3 z.ov z.d.ops.length (z.d.ops.flatMap opE)) ∧ Below w55.heap.size w55 xw) rfl rfl rfl (by kernel_rfl) (by kernel_rfl) (Try.call21 _ _) (scOf_any (putA (us44.map EvX.d)) w55 (by omega)) (by rintro e x ⟨v, us, rfl, h⟩; exact ⟨_, rfl, us, h⟩)) ?_; clear h67
     rintro u72 w69 a68 ⟨us73, hm74, hr75, ho76, hb77⟩ h68
     have hz78 := hb77.size
     have hk79 := (NR.of (k := 0) ho76).ok hm74
     have hk80 := hk79.2.2
     refine pk0 (v := u43) h68 rfl fun a81 h81 => ?_; clear h68
     have hNR84 := (NR.of (k := 0) ho47).below hb56
     have hNR85 := hNR84.below hb77
     have hr86 := row_kept_new hr46 (below_grown hb56)
     have hr87 := row_kept_new hr86 (below_grown hb77)
     refine pw h81 rfl (op_call (args := #[u72, u43]) (R := fun res xw => res = .bool true ∧ Below w69.heap.size w69 xw) rfl rfl rfl (by kernel_rfl) (by kernel_rfl) (Try.call20 _ _) (sameEv_any u72 us73 u43 us44 w69 (row_sl hr75 evE_len) ((NR.of (k := 0) ho76).sl) (row_sl hr87 evE_len) (hNR85.sl) (hm74.trans (back_tail hm45).2)) (by rintro e x ⟨rfl, hb88⟩; exact ⟨_, rfl, ⟨rfl, hb88⟩⟩)) ?_; clear h81
     rintro _ w83 a82 ⟨rfl, hb88⟩ h82
     have hz89 := hb88.size
     refine pk0 (v := .bool true) h82 rfl fun a90 h90 => ?_; clear h82
     refine pk0 (v := .bool true) h90 rfl fun a91 h91 => ?_; clear h90
     refine pw h91 rfl (op_call (args := #[]) (R := fun res xw => res = .bool true ∧ Below w83.heap.size w83 xw) rfl rfl rfl (by kernel_rfl) (by kernel_rfl) (Try.call17 _ _) (awake40_any w83) (by rintro e x ⟨rfl, h⟩; exact ⟨_, rfl, rfl, h⟩)) ?_; clear h91
     rintro _ w93 a92 ⟨rfl, hb94⟩ h92
     have hz95 := hb94.size
     refine pk0 (v := .bool true) h92 rfl fun a96 h96 => ?_; clear h92
     refine pk0 (v := .bool true) h96 rfl fun a97 h97 => ?_; clear h96
     refine pl_nil ?_
     refine co_then ?_
     refine wp_ret ?_
     refine co_ret1 h97 rfl rfl ?_
     have hB98 := hb_call hB71 hb77
     have hB99 := hb_call hB98 hb88
     have hB100 := hb_call hB99 hb94
     exact ⟨rfl, hB100⟩
    ·
     rw [hc37] at h36
     have hp101 : allE (l.map EvX.d) = 0 := by first | simpa using hc37 | simpa [and_assoc] using hc37
     clear hc37
     refine co_true h36 rfl ?_
     refine co_seq ?_
     refine co_reg ?_
     refine pk0 (v := .slice none 0 0) h36 rfl fun a102 h102 => ?_; clear h36
     refine pl_nil ?_
     refine co_then ?_
     refine co_seq ?_
     refine co_seq ?_
     refine co_reg ?_
     refine pk0 (v := .int .i64 0) h102 rfl fun a103 h103 => ?_; clear h102
     refine pl_nil ?_
     refine co_then ?_
     refine wp_block ?_
     have h104 : Slots 82 [(0, v), (1, .string s), (5, .string (putA (l.map EvX.d))), (6, .int .i64 (allE (l.map EvX.d))), (7, .slice none 0 0), (8, .int .i64 0)] _ := h103.sub ⟨rfl, rfl, rfl, rfl, rfl, rfl, trivial⟩; clear h103
     refine co_loop (fun mm a x => ∃ (i : Nat) (u : Value) (us : List EvX), Slots 82 [(0, v), (1, .string s), (5, .string (putA (l.map EvX.d))), (6, .int .i64 (allE (l.map EvX.d))), (7, u), (8, .int .i64 ((i : Nat) : Int))] a ∧ mm = l.length - i ∧ (i ≤ l.length) ∧ (us.map EvX.d = (l.take i).map (fun z => cleanE z.d)) ∧ (us.length = i) ∧ x.ownsRow w.heap.size 60 10 u us.length (us.flatMap evE) ∧ NR x us 0 ∧ Below w.heap.size w x) (l.length - 0) ?_ ?_
     · exact ⟨0, (.slice none 0 0), [], h104.sub ⟨rfl, rfl, rfl, rfl, rfl, (slot_eq rfl (congrArg (Value.int .i64) (by first | rfl | omega))), trivial⟩, rfl, by omega, by first | rfl | exact hin', by first | rfl | (simp; omega), (row_nilL _ _ _ _ _), NR.nil, hB38⟩
     · rintro k105 a106 w107 ⟨i, u, us, h106, rfl, hi108, hi109, hi110, hf111, hf112, hB113⟩
       have hz114 := hB113.size
       have hus : us.map EvX.d = (l.take i).map (fun z => cleanE z.d) := by assumption
       refine co_seq ?_
       refine co_seq ?_
       refine co_reg ?_
       refine pk0 (v := .int .i64 ((i : Nat) : Int)) h106 rfl fun a115 h115 => ?_; clear h106
       refine pk0 (v := v) h115 rfl fun a116 h116 => ?_; clear h115
       refine pk (v := .int .i64 ((l.length : Nat) : Int)) h116 rfl (rn_len rfl rfl Try.underlying50 (hs.below hB113)) fun a117 h117 => ?_; clear h116
       refine pk0 (v := .bool (decide (((i : Nat) : Int) < ((l.length : Nat) : Int)))) h117 rfl fun a118 h118 => ?_; clear h117
       refine pl_nil ?_
       refine co_then ?_
       cases hc119 : (decide (((i : Nat) : Int) < ((l.length : Nat) : Int)))
       ·
        rw [hc119] at h118
        have hp120 : ¬ (((i : Nat) : Int) < ((l.length : Nat) : Int)) := of_decide_eq_false hc119
        clear hc119
        refine co_false h118 rfl ?_
        refine wp_exit ?_
        refine co_thenX ?_
        refine co_thenX ?_
        refine co_blockX ?_
        refine co_then ?_
        refine co_seq ?_
        refine co_reg ?_
        refine pk0 (v := .string (putA (l.map EvX.d))) h118 rfl fun a121 h121 => ?_; clear h118
        refine pw h121 rfl (op_call (args := #[.string (putA (l.map EvX.d))]) (R := fun res xw => ∃ us : List EvX, us.map EvX.d = stepsR (putA (l.map EvX.d)) ∧ xw.ownsRow w107.heap.size 60 10 res us.length (us.flatMap evE) ∧ (∀ z ∈ us, xw.ownsRow w107.heap.size 66 3 z.ov z.d.ops.length (z.d.ops.flatMap opE)) ∧ Below w107.heap.size w107 xw) rfl rfl rfl (by kernel_rfl) (by kernel_rfl) (Try.call21 _ _) (scOf_any (putA (l.map EvX.d)) w107 (by omega)) (by rintro e x ⟨v, us, rfl, h⟩; exact ⟨_, rfl, us, h⟩)) ?_; clear h121
        rintro u124 w123 a122 ⟨us125, hm126, hr127, ho128, hb129⟩ h122
        have hz130 := hb129.size
        have hk131 := (NR.of (k := 0) ho128).ok hm126
        have hk132 := hk131.2.2
        refine pk0 (v := u) h122 rfl fun a133 h133 => ?_; clear h122
        have hNR136 := hf112.below hb129
        have hr137 := row_kept_new hf111 (below_grown hb129)
        refine pw h133 rfl (op_call (args := #[u124, u]) (R := fun res xw => res = .bool true ∧ Below w123.heap.size w123 xw) rfl rfl rfl (by kernel_rfl) (by kernel_rfl) (Try.call20 _ _) (sameEv_any u124 us125 u us w123 (row_sl hr127 evE_len) ((NR.of (k := 0) ho128).sl) (row_sl hr137 evE_len) (hNR136.sl) (hm126.trans ((put_read (by omega) (fun e he => by obtain ⟨z, hz, rfl⟩ := List.mem_map.1 he; exact (hok z hz).s.ts)).trans (by rw [hus, List.take_of_length_le (by omega), List.map_map]; rfl)))) (by rintro e x ⟨rfl, hb138⟩; exact ⟨_, rfl, ⟨rfl, hb138⟩⟩)) ?_; clear h133
        rintro _ w135 a134 ⟨rfl, hb138⟩ h134
        have hz139 := hb138.size
        refine pk0 (v := .bool false) h134 rfl fun a140 h140 => ?_; clear h134
        refine pl_nil ?_
        refine co_then ?_
        refine co_false h140 rfl ?_
        refine wp_skip ?_
        refine co_then ?_
        refine co_seq ?_
        refine co_reg ?_
        refine pk0 (v := .string s) h140 rfl fun a141 h141 => ?_; clear h140
        have hB144 := hb_call hB113 hb129
        have hB145 := hb_call hB144 hb138
        refine pw h141 rfl (op_call (args := #[.string s]) (R := fun res xw => ∃ us : List EvX, us.map EvX.d = stepsR s ∧ xw.ownsRow w135.heap.size 60 10 res us.length (us.flatMap evE) ∧ (∀ z ∈ us, xw.ownsRow w135.heap.size 66 3 z.ov z.d.ops.length (z.d.ops.flatMap opE)) ∧ Below w135.heap.size w135 xw) rfl rfl rfl (by kernel_rfl) (by kernel_rfl) (Try.call21 _ _) (scOf_any s w135 (by omega)) (by rintro e x ⟨v, us, rfl, h⟩; exact ⟨_, rfl, us, h⟩)) ?_; clear h141
        rintro u146 w143 a142 ⟨us147, hm148, hr149, ho150, hb151⟩ h142
        have hz152 := hb151.size
        have hk153 := (NR.of (k := 0) ho150).ok hm148
        have hk154 := hk153.2.2
        refine pk0 (v := u146) h142 rfl fun a155 h155 => ?_; clear h142
        refine pl_nil ?_
        refine co_then ?_
        refine co_seq ?_
        refine co_reg ?_
        refine pk0 (v := u146) h155 rfl fun a156 h156 => ?_; clear h155
        refine pw h156 rfl (op_call (args := #[u146]) (R := fun res xw => res = .tuple #[.string (putA (us147.map EvX.d)), .int .i64 (allE (us147.map EvX.d))] ∧ Below w143.heap.size w143 xw) rfl rfl rfl (by kernel_rfl) (by kernel_rfl) (Try.call18 _ _) (scPut_any u146 us147 w143 (row_sl hr149 evE_len) (fun z hz => ⟨((NR.of (k := 0) ho150).sl z hz).sl, (hk153.1 z hz).s⟩) hk153.2.1 (by omega)) (by rintro e x ⟨rfl, hb159⟩; exact ⟨_, rfl, ⟨rfl, hb159⟩⟩)) ?_; clear h156
        rintro _ w158 a157 ⟨rfl, hb159⟩ h157
        have hz160 := hb159.size
        have hplus147 := putA_len (us147.map EvX.d); rw [List.length_map] at hplus147
        have haeus147 := (back_tail hm148).1
        refine pk0 (v := .tuple #[.string (putA (us147.map EvX.d)), .int .i64 (allE (us147.map EvX.d))]) h157 rfl fun a161 h161 => ?_; clear h157
        refine pk0 (v := .string (putA (us147.map EvX.d))) h161 rfl fun a162 h162 => ?_; clear h161
        refine pk0 (v := .int .i64 (allE (us147.map EvX.d))) h162 rfl fun a163 h163 => ?_; clear h162
        refine pk0 (v := .string (putA (us147.map EvX.d))) h163 rfl fun a164 h164 => ?_; clear h163
        refine pk0 (v := .int .i64 (allE (us147.map EvX.d))) h164 rfl fun a165 h165 => ?_; clear h164
        refine pl_nil ?_
        refine co_then ?_
        refine co_seq ?_
        refine co_reg ?_
        refine pk0 (v := .int .i64 (allE (us147.map EvX.d))) h165 rfl fun a166 h166 => ?_; clear h165
        refine pk0 (v := .bool (allE (us147.map EvX.d) == 0)) h166 rfl fun a167 h167 => ?_; clear h166
        refine pk0 (v := .bool (allE (us147.map EvX.d) == 0)) h167 rfl fun a168 h168 => ?_; clear h167
        have hc169 : (allE (us147.map EvX.d) == 0) = true := by first | (simp; done) | (simp; omega) | exact beq_false_of_ne (by omega) | exact beq_iff_eq.2 (by omega)
        rw [hc169] at h168; clear hc169
        refine pk0 (v := .string (putA (us147.map EvX.d))) h168 rfl fun a170 h170 => ?_; clear h168
        have hB173 := hb_call hB145 hb151
        have hB174 := hb_call hB173 hb159
        have hr175 := row_kept_new hr137 (below_grown hb138)
        have hr176 := row_kept_new hr175 (below_grown hb151)
        have hr177 := row_kept_new hr176 (below_grown hb159)
        have hNR178 := hNR136.below hb138
        have hNR179 := hNR178.below hb151
        have hNR180 := hNR179.below hb159
        have hr181 := row_kept_new hr127 (below_grown hb138)
        have hr182 := row_kept_new hr181 (below_grown hb151)
        have hr183 := row_kept_new hr182 (below_grown hb159)
        have hNR184 := (NR.of (k := 0) ho128).below hb138
        have hNR185 := hNR184.below hb151
        have hNR186 := hNR185.below hb159
        refine pw h170 rfl (op_call (args := #[.string (putA (us147.map EvX.d))]) (R := fun res xw => ∃ us : List EvX, us.map EvX.d = stepsR (putA (us147.map EvX.d)) ∧ xw.ownsRow w158.heap.size 60 10 res us.length (us.flatMap evE) ∧ (∀ z ∈ us, xw.ownsRow w158.heap.size 66 3 z.ov z.d.ops.length (z.d.ops.flatMap opE)) ∧ Below w158.heap.size w158 xw) rfl rfl rfl (by kernel_rfl) (by kernel_rfl) (Try.call21 _ _) (scOf_any (putA (us147.map EvX.d)) w158 (by omega)) (by rintro e x ⟨v, us, rfl, h⟩; exact ⟨_, rfl, us, h⟩)) ?_; clear h170
        rintro u187 w172 a171 ⟨us188, hm189, hr190, ho191, hb192⟩ h171
        have hz193 := hb192.size
        have hk194 := (NR.of (k := 0) ho191).ok hm189
        have hk195 := hk194.2.2
        refine pk0 (v := u146) h171 rfl fun a196 h196 => ?_; clear h171
        have hNR199 := (NR.of (k := 0) ho150).below hb159
        have hNR200 := hNR199.below hb192
        have hr201 := row_kept_new hr149 (below_grown hb159)
        have hr202 := row_kept_new hr201 (below_grown hb192)
        refine pw h196 rfl (op_call (args := #[u187, u146]) (R := fun res xw => res = .bool true ∧ Below w172.heap.size w172 xw) rfl rfl rfl (by kernel_rfl) (by kernel_rfl) (Try.call20 _ _) (sameEv_any u187 us188 u146 us147 w172 (row_sl hr190 evE_len) ((NR.of (k := 0) ho191).sl) (row_sl hr202 evE_len) (hNR200.sl) (hm189.trans (back_tail hm148).2)) (by rintro e x ⟨rfl, hb203⟩; exact ⟨_, rfl, ⟨rfl, hb203⟩⟩)) ?_; clear h196
        rintro _ w198 a197 ⟨rfl, hb203⟩ h197
        have hz204 := hb203.size
        refine pk0 (v := .bool true) h197 rfl fun a205 h205 => ?_; clear h197
        refine pk0 (v := .bool true) h205 rfl fun a206 h206 => ?_; clear h205
        refine pw h206 rfl (op_call (args := #[]) (R := fun res xw => res = .bool true ∧ Below w198.heap.size w198 xw) rfl rfl rfl (by kernel_rfl) (by kernel_rfl) (Try.call17 _ _) (awake40_any w198) (by rintro e x ⟨rfl, h⟩; exact ⟨_, rfl, rfl, h⟩)) ?_; clear h206
        rintro _ w208 a207 ⟨rfl, hb209⟩ h207
        have hz210 := hb209.size
        refine pk0 (v := .bool true) h207 rfl fun a211 h211 => ?_; clear h207
        refine pk0 (v := .bool true) h211 rfl fun a212 h212 => ?_; clear h211
        refine pl_nil ?_
        refine co_then ?_
        refine wp_ret ?_
        refine co_ret1 h212 rfl rfl ?_
        have hB213 := hb_call hB174 hb192
        have hB214 := hb_call hB213 hb203
        have hB215 := hb_call hB214 hb209
        exact ⟨rfl, hB215⟩
       ·
        rw [hc119] at h118
        have hp216 : ((i : Nat) : Int) < ((l.length : Nat) : Int) := of_decide_eq_true hc119
        clear hc119
        refine co_true h118 rfl ?_
        refine wp_skip ?_
        refine co_then ?_
        refine co_seq ?_
        refine wp_block ?_
        refine co_seq ?_
        refine co_reg ?_
        refine pk0 (v := v) h118 rfl fun a217 h217 => ?_; clear h118
        refine pk0 (v := .int .i64 ((i : Nat) : Int)) h217 rfl fun a218 h218 => ?_; clear h217
        obtain ⟨y219, hy219⟩ : ∃ z, l[i]? = some z := ⟨_, List.getElem?_eq_getElem (by first | omega | (simp; done) | (simp; omega))⟩
        have oky219 := hok _ (List.mem_of_getElem? hy219)
        have h100y219 := h100 (by omega) (by omega) y219 (List.mem_of_getElem? hy219)
        refine pk (v := pt (blkOf v) (offOf v + i * 10)) h218 rfl (rn_index rfl rfl rfl Try.underlying50 Try.sizeOf60 (hs.below hB113) (by omega) (by first | omega | (simp; done) | (simp; omega))) fun a220 h220 => ?_; clear h218
        refine pk (v := .agg #[.int .i64 y219.d.k, .int .i64 y219.d.nd, .int .i64 y219.d.n, .int .i64 y219.d.ak, .int .i64 y219.d.an, .string y219.d.ky, .string y219.d.tt, .int .u64 y219.d.at_, .int .i64 y219.d.am, y219.ov]) h220 rfl (rn_loadN rfl rfl Try.underlying60 rfl (by kernel_rfl) (sl_at (hs.below hB113) hy219)) fun a221 h221 => ?_; clear h220
        refine pw h221 rfl (op_call (args := #[.agg #[.int .i64 y219.d.k, .int .i64 y219.d.nd, .int .i64 y219.d.n, .int .i64 y219.d.ak, .int .i64 y219.d.an, .string y219.d.ky, .string y219.d.tt, .int .u64 y219.d.at_, .int .i64 y219.d.am, y219.ov]]) (R := fun res xw => ∃ u : Value, res = .agg #[.int .i64 ((cleanE y219.d).k), .int .i64 ((cleanE y219.d).nd), .int .i64 ((cleanE y219.d).n), .int .i64 ((cleanE y219.d).ak), .int .i64 ((cleanE y219.d).an), .string ((cleanE y219.d).ky), .string ((cleanE y219.d).tt), .int .u64 ((cleanE y219.d).at_), .int .i64 ((cleanE y219.d).am), u] ∧ xw.ownsRow w107.heap.size 66 3 u (cleanE y219.d).ops.length ((cleanE y219.d).ops.flatMap opE) ∧ Below w107.heap.size w107 xw) rfl rfl rfl (by kernel_rfl) (by kernel_rfl) (Try.call23 _ _) (scl_any y219.d (y219.ov) w107 (oky219.sl.below hB113) (by omega)) (by rintro e x ⟨u, rfl, h1, h2⟩; exact ⟨_, rfl, u, rfl, h1, h2⟩)) ?_; clear h221
        rintro _ w223 a222 ⟨u224, rfl, hr225, hb226⟩ h222
        have hz227 := hb226.size
        refine pw h222 rfl (op_new (v := fun N => pt N 0) (T := 60) (cs := #[.int .i64 0, .int .i64 0, .int .i64 0, .int .i64 0, .int .i64 0, .string (⟨#[]⟩), .string (⟨#[]⟩), .int .u64 0, .int .i64 0, .slice none 0 0]) (by kernel_rfl) (by kernel_rfl) (by kernel_rfl)) ?_; clear h222
        rintro _ w229 a228 ⟨N230, rfl, hN233, hz234, hk232, hg231⟩ h228
        have hr236 := row_kept_new hf111 (below_grown hb226)
        have ha235 := row_fresh hr236 hN233
        have ha237 := row_fresh hr225 hN233
        have hz238 := hg231.size
        try dsimp only at h228
        have hr244 := row_kept_new hr225 hg231
        refine pwD h228 rfl (op_storeN rfl rfl rfl (all_cons rfl (all_cons rfl (all_cons rfl (all_cons rfl (all_cons rfl (all_cons rfl (all_cons rfl (all_cons rfl (all_cons rfl (all_cons (row_one hr244) all_nil)))))))))) (by kernel_rfl) hk232 rfl) ?_; clear h228
        rintro _ w240 a239 ⟨hk241, hz242, hg243⟩ h239
        have hk241' : Blk w240 N230 60 #[.int .i64 ((cleanE y219.d).k), .int .i64 ((cleanE y219.d).nd), .int .i64 ((cleanE y219.d).n), .int .i64 ((cleanE y219.d).ak), .int .i64 ((cleanE y219.d).an), .string ((cleanE y219.d).ky), .string ((cleanE y219.d).tt), .int .u64 ((cleanE y219.d).at_), .int .i64 ((cleanE y219.d).am), u224] := hk241; clear hk241
        have hz245 := hg243.size
        refine pl_nil ?_
        refine co_then ?_
        refine co_seq ?_
        refine co_seq ?_
        refine dr_gen (fun x => Below w.heap.size w x ∧ NR x us 0 ∧ Blk x N230 60 #[.int .i64 ((cleanE y219.d).k), .int .i64 ((cleanE y219.d).nd), .int .i64 ((cleanE y219.d).n), .int .i64 ((cleanE y219.d).ak), .int .i64 ((cleanE y219.d).an), .string ((cleanE y219.d).ky), .string ((cleanE y219.d).tt), .int .u64 ((cleanE y219.d).at_), .int .i64 ((cleanE y219.d).am), u224]) (by kernel_rfl) (fun w246 hg247 => ?_) (fun w246 hg247 => ?_)
        ·
         have hz248 := hg247.size
         have hB249 := hb_call hB113 hb226
         have hB250 := hb_new hB249 hg231
         have hB251 := hb_at hB250 hg243 (by omega)
         have hB252 := hb_new hB251 hg247
         have hNR253 := hf112.below hb226
         have hNR254 := hNR253.new hg231
         have hNR255 := hNR254.blk hk232 (by decide) hg243
         have hNR256 := hNR255.new hg247
         have hk257 := hk241'.kept hg247 (by simp)
         exact ⟨hB252, hNR256, hk257⟩
        have hz258 := hg247.size
        have hB259 := hb_call hB113 hb226
        have hB260 := hb_new hB259 hg231
        have hB261 := hb_at hB260 hg243 (by omega)
        have hB262 := hb_new hB261 hg247
        have hNR263 := hf112.below hb226
        have hNR264 := hNR263.new hg231
        have hNR265 := hNR264.blk hk232 (by decide) hg243
        have hNR266 := hNR265.new hg247
        have hk267 := hk241'.kept hg247 (by simp)
        refine dk 0 (v := .agg #[.int .i64 ((cleanE y219.d).k), .int .i64 ((cleanE y219.d).nd), .int .i64 ((cleanE y219.d).n), .int .i64 ((cleanE y219.d).ak), .int .i64 ((cleanE y219.d).an), .string ((cleanE y219.d).ky), .string ((cleanE y219.d).tt), .int .u64 ((cleanE y219.d).at_), .int .i64 ((cleanE y219.d).am), u224]) h239 rfl rfl ⟨hB262, hNR266, hk267⟩ (fun x hx => (rn_loadN rfl rfl Try.underlying60 rfl (by kernel_rfl) hx.2.2.all)) fun a268 h268 => ?_; clear h239
        refine dk0 2 (v := v) h268 rfl rfl ⟨hB262, hNR266, hk267⟩ fun a269 h269 => ?_; clear h268
        refine dk0 3 (v := .int .i64 ((i : Nat) : Int)) h269 rfl rfl ⟨hB262, hNR266, hk267⟩ fun a270 h270 => ?_; clear h269
        refine dk 4 (v := pt (blkOf v) (offOf v + i * 10)) h270 rfl rfl ⟨hB262, hNR266, hk267⟩ (fun x hx => (rn_index rfl rfl rfl Try.underlying50 Try.sizeOf60 (hs.below hx.1) (by omega) (by first | omega | (simp; done) | (simp; omega)))) fun a271 h271 => ?_; clear h270
        refine dk 5 (v := .agg #[.int .i64 y219.d.k, .int .i64 y219.d.nd, .int .i64 y219.d.n, .int .i64 y219.d.ak, .int .i64 y219.d.an, .string y219.d.ky, .string y219.d.tt, .int .u64 y219.d.at_, .int .i64 y219.d.am, y219.ov]) h271 rfl rfl ⟨hB262, hNR266, hk267⟩ (fun x hx => (rn_loadN rfl rfl Try.underlying60 rfl (by kernel_rfl) (sl_at (hs.below hx.1) hy219))) fun a272 h272 => ?_; clear h271
        refine dr_many [1, 6] (by kernel_rfl) (by simp) ⟨?_, ?_, trivial⟩
        ·
         refine dr_op (i := 1) h272 rfl rfl rfl rfl (op_new (v := fun N => .slice (some ⟨N, 0, none⟩) 1 1) (T := 60) (cs := #[.int .i64 ((cleanE y219.d).k), .int .i64 ((cleanE y219.d).nd), .int .i64 ((cleanE y219.d).n), .int .i64 ((cleanE y219.d).ak), .int .i64 ((cleanE y219.d).an), .string ((cleanE y219.d).ky), .string ((cleanE y219.d).tt), .int .u64 ((cleanE y219.d).at_), .int .i64 ((cleanE y219.d).am), u224]) (by kernel_rfl) (by kernel_rfl) (by kernel_rfl)) ?_ ?_; clear h272
         ·
          rintro _ w274 ⟨N275, rfl, hN278, hz279, hk277, hg276⟩
          have hr281 := row_kept_new hr236 hg231
          have hr282 := row_kept_at hr281 hg243 (ha235)
          have hr283 := row_kept_new hr282 hg247
          have ha280 := row_fresh hr283 hN278
          have hr285 := row_kept_at hr244 hg243 (ha237)
          have hr286 := row_kept_new hr285 hg247
          have ha284 := row_fresh hr286 hN278
          have hz287 := hg276.size
          have hB288 := hb_new hB262 hg276
          have hNR289 := hNR266.new hg276
          have hk290 := hk267.kept hg276 (by simp)
          exact ⟨hB288, hNR289, hk290⟩
         rintro _ w274 a273 ⟨N275, rfl, hN278, hz279, hk277, hg276⟩ h273
         have hr281 := row_kept_new hr236 hg231
         have hr282 := row_kept_at hr281 hg243 (ha235)
         have hr283 := row_kept_new hr282 hg247
         have ha280 := row_fresh hr283 hN278
         have hr285 := row_kept_at hr244 hg243 (ha237)
         have hr286 := row_kept_new hr285 hg247
         have ha284 := row_fresh hr286 hN278
         have hz287 := hg276.size
         try dsimp only at h273
         have hB288 := hb_new hB262 hg276
         have hNR289 := hNR266.new hg276
         have hk290 := hk267.kept hg276 (by simp)
         refine d1 6 h273 rfl rfl (op_call (args := #[.agg #[.int .i64 y219.d.k, .int .i64 y219.d.nd, .int .i64 y219.d.n, .int .i64 y219.d.ak, .int .i64 y219.d.an, .string y219.d.ky, .string y219.d.tt, .int .u64 y219.d.at_, .int .i64 y219.d.am, y219.ov]]) (R := fun res xw => ∃ u : Value, res = .agg #[.int .i64 ((cleanE y219.d).k), .int .i64 ((cleanE y219.d).nd), .int .i64 ((cleanE y219.d).n), .int .i64 ((cleanE y219.d).ak), .int .i64 ((cleanE y219.d).an), .string ((cleanE y219.d).ky), .string ((cleanE y219.d).tt), .int .u64 ((cleanE y219.d).at_), .int .i64 ((cleanE y219.d).am), u] ∧ SLw xw u (cleanE y219.d).ops ∧ Below w274.heap.size w274 xw) rfl rfl rfl (by kernel_rfl) (by kernel_rfl) (Try.call24 _ _) (rcl_any y219.d (y219.ov) w274 (oky219.sl.below hB288)) (by rintro e x ⟨u, rfl, h1, h2⟩; exact ⟨_, rfl, u, rfl, h1, h2⟩)) ?_ ?_; clear h273
         ·
          rintro _ w292 ⟨u293, rfl, hr294, hb295⟩
          have hz296 := hb295.size
          have hB297 := hb_call hB288 hb295
          have hNR298 := hNR289.below hb295
          have hk299 := hk290.below hb295
          exact ⟨hB297, hNR298, hk299⟩
         rintro _ w292 a291 ⟨u293, rfl, hr294, hb295⟩ h291
         have hz296 := hb295.size
         have hB297 := hb_call hB288 hb295
         have hNR298 := hNR289.below hb295
         have hk299 := hk290.below hb295
         refine d1 7 h291 rfl rfl (op_new (v := fun N => .slice (some ⟨N, 0, none⟩) 1 1) (T := 60) (cs := #[.int .i64 ((cleanE y219.d).k), .int .i64 ((cleanE y219.d).nd), .int .i64 ((cleanE y219.d).n), .int .i64 ((cleanE y219.d).ak), .int .i64 ((cleanE y219.d).an), .string ((cleanE y219.d).ky), .string ((cleanE y219.d).tt), .int .u64 ((cleanE y219.d).at_), .int .i64 ((cleanE y219.d).am), u293]) (by kernel_rfl) (by kernel_rfl) (by kernel_rfl)) ?_ ?_; clear h291
         ·
          rintro _ w301 ⟨N302, rfl, hN305, hz306, hk304, hg303⟩
          have hr308 := row_kept_new hr283 hg276
          have hr309 := row_kept_new hr308 (below_grown hb295)
          have ha307 := row_fresh hr309 hN305
          have hr311 := row_kept_new hr286 hg276
          have hr312 := row_kept_new hr311 (below_grown hb295)
          have ha310 := row_fresh hr312 hN305
          have hz313 := hg303.size
          have hB314 := hb_new hB297 hg303
          have hNR315 := hNR298.new hg303
          have hk316 := hk299.kept hg303 (by simp)
          exact ⟨hB314, hNR315, hk316⟩
         rintro _ w301 a300 ⟨N302, rfl, hN305, hz306, hk304, hg303⟩ h300
         have hr308 := row_kept_new hr283 hg276
         have hr309 := row_kept_new hr308 (below_grown hb295)
         have ha307 := row_fresh hr309 hN305
         have hr311 := row_kept_new hr286 hg276
         have hr312 := row_kept_new hr311 (below_grown hb295)
         have ha310 := row_fresh hr312 hN305
         have hz313 := hg303.size
         try dsimp only at h300
         have hB314 := hb_new hB297 hg303
         have hNR315 := hNR298.new hg303
         have hk316 := hk299.kept hg303 (by simp)
         have hr319 := row_kept_new hr312 hg303
         have hNR320 := hr294.new hg303
         have hk322 := hk277.below hb295
         have hk323 := hk322.kept hg303 (by simp)
         have hr321 := row_of_cells (enc := evE) (sz := 10) ([(EvX.mk (cleanE y219.d) u224)] : List EvX) hk323 (Nat.le_refl _) rfl rfl (by unfold maxLen; simp)
         have hr324 := row_of_cells (enc := evE) (sz := 10) ([(EvX.mk (cleanE y219.d) u293)] : List EvX) hk304 (Nat.le_refl _) rfl rfl (by unfold maxLen; simp)
         refine d1 8 h300 rfl rfl (op_call (args := #[.slice (some ⟨N275, 0, none⟩) 1 1, .slice (some ⟨N302, 0, none⟩) 1 1]) (R := fun res xw => res = .bool true ∧ Below w301.heap.size w301 xw) rfl rfl rfl (by kernel_rfl) (by kernel_rfl) (Try.call20 _ _) (sameEv_any (.slice (some ⟨N275, 0, none⟩) 1 1) ([(EvX.mk (cleanE y219.d) u224)] : List EvX) (.slice (some ⟨N302, 0, none⟩) 1 1) ([(EvX.mk (cleanE y219.d) u293)] : List EvX) w301 (row_sl hr321 evE_len) (fun z hz => by rw [List.mem_singleton] at hz; subst hz; exact ⟨(row_sl hr319 opE_len)⟩) (row_sl hr324 evE_len) (fun z hz => by rw [List.mem_singleton] at hz; subst hz; exact ⟨hNR320⟩) (rfl)) (by rintro e x ⟨rfl, hb325⟩; exact ⟨_, rfl, ⟨rfl, hb325⟩⟩)) ?_ ?_; clear h300
         ·
          rintro _ w318 ⟨rfl, hb325⟩
          have hz326 := hb325.size
          have hB327 := hb_call hB314 hb325
          have hNR328 := hNR315.below hb325
          have hk329 := hk316.below hb325
          exact ⟨hB327, hNR328, hk329⟩
         rintro _ w318 a317 ⟨rfl, hb325⟩ h317
         have hz326 := hb325.size
         have hB327 := hb_call hB314 hb325
         have hNR328 := hNR315.below hb325
         have hk329 := hk316.below hb325
         refine dk0 9 (v := .bool false) h317 rfl rfl ⟨hB327, hNR328, hk329⟩ fun a330 h330 => ?_; clear h317
         refine dr_done (by kernel_rfl) ?_
         refine co_then ?_
         refine co_false h330 rfl ?_
         refine wp_skip ?_
         refine co_then ?_
         refine co_reg ?_
         refine pk0 (v := u) h330 rfl fun a331 h331 => ?_; clear h330
         refine pk (v := .agg #[.int .i64 ((cleanE y219.d).k), .int .i64 ((cleanE y219.d).nd), .int .i64 ((cleanE y219.d).n), .int .i64 ((cleanE y219.d).ak), .int .i64 ((cleanE y219.d).an), .string ((cleanE y219.d).ky), .string ((cleanE y219.d).tt), .int .u64 ((cleanE y219.d).at_), .int .i64 ((cleanE y219.d).am), u224]) h331 rfl (rn_loadN rfl rfl Try.underlying60 rfl (by kernel_rfl) hk329.all) fun a332 h332 => ?_; clear h331
         refine pw h332 rfl (op_new (v := fun N => .slice (some ⟨N, 0, none⟩) 1 1) (T := 60) (cs := #[.int .i64 ((cleanE y219.d).k), .int .i64 ((cleanE y219.d).nd), .int .i64 ((cleanE y219.d).n), .int .i64 ((cleanE y219.d).ak), .int .i64 ((cleanE y219.d).an), .string ((cleanE y219.d).ky), .string ((cleanE y219.d).tt), .int .u64 ((cleanE y219.d).at_), .int .i64 ((cleanE y219.d).am), u224]) (by kernel_rfl) (by kernel_rfl) (by kernel_rfl)) ?_; clear h332
         rintro _ w334 a333 ⟨N335, rfl, hN338, hz339, hk337, hg336⟩ h333
         have hr341 := row_kept_new hr309 hg303
         have hr342 := row_kept_new hr341 (below_grown hb325)
         have ha340 := row_fresh hr342 hN338
         have hr344 := row_kept_new hr319 (below_grown hb325)
         have ha343 := row_fresh hr344 hN338
         have hr346 := row_kept_new hr321 (below_grown hb325)
         have ha345 := row_fresh hr346 hN338
         have hr348 := row_kept_new hr324 (below_grown hb325)
         have ha347 := row_fresh hr348 hN338
         have hz349 := hg336.size
         try dsimp only at h333
         have hr356 := row_kept_new hr342 hg336
         have hr357 := row_kept_new hr344 hg336
         refine pw h333 rfl (op_append rfl w.heap.size 60 (z := .agg #[.int .i64 0, .int .i64 0, .int .i64 0, .int .i64 0, .int .i64 0, .string (⟨#[]⟩), .string (⟨#[]⟩), .int .u64 0, .int .i64 0, .slice none 0 0]) (size := 10) (bytes := 112) Try.underlying50 (by kernel_rfl) rfl rfl rfl hr356 rfl hk337 rfl (all_cons rfl (all_cons rfl (all_cons rfl (all_cons rfl (all_cons rfl (all_cons rfl (all_cons rfl (all_cons rfl (all_cons rfl (all_cons (row_one hr357) all_nil)))))))))) (by first | omega | (simp only [List.length_nil, List.length_append, List.length_cons, List.length_take, List.length_drop]; omega)) (by first | omega | (simp only [List.length_nil, List.length_append, List.length_cons, List.length_take, List.length_drop]; omega)) (by omega)) ?_; clear h333
         rintro v352 w351 a350 ⟨hr353, hg354⟩ h350
         have hr353' : w351.ownsRow w.heap.size 60 10 v352 ((us ++ [(EvX.mk (cleanE y219.d) u224)]).length) ((us ++ [(EvX.mk (cleanE y219.d) u224)]).flatMap evE) := row_push (y := (EvX.mk (cleanE y219.d) u224)) hr353 rfl rfl; clear hr353
         have hz358 := hg354.size
         refine pk0 (v := v352) h350 rfl fun a359 h359 => ?_; clear h350
         refine pl_nil ?_
         refine co_blockN ?_
         refine co_then ?_
         refine co_reg ?_
         refine pk0 (v := .int .i64 ((i : Nat) : Int)) h359 rfl fun a360 h360 => ?_; clear h359
         refine pk (v := .int .i64 ((i + 1 : Nat) : Int)) h360 rfl (rn_arith' rfl rfl rfl rfl rfl rfl (IntWalk.i64_in _ (by omega)) (by omega)) fun a361 h361 => ?_; clear h360
         refine pk0 (v := .int .i64 ((i + 1 : Nat) : Int)) h361 rfl fun a362 h362 => ?_; clear h361
         refine pl_nil ?_
         refine co_then ?_
         refine ⟨(l.length - (i + 1)), by omega, ?_⟩
         have hin' := cl_snoc (u := u224) hus hy219
         have hNR363 := hNR328.new hg336
         have hNR364 := hNR363.row hr356 (by decide) hg354
         have hr365 := row_kept_row hr357 hr356 hg354 (by decide)
         have hB366 := hb_new hB327 hg336
         have hB367 := hb_row hB366 hr356 (by omega) hg354
         exact ⟨i + 1, v352, us ++ [(EvX.mk (cleanE y219.d) u224)], h362.sub ⟨rfl, rfl, rfl, rfl, rfl, rfl, trivial⟩, rfl, by omega, by first | rfl | exact hin', by first | rfl | (simp; omega), (row_eq hr353' (rfl)), (hNR364.snoc hr365), hB367⟩
        ·
         have hr370 := row_kept_new hr236 hg231
         have hr371 := row_kept_at hr370 hg243 (ha235)
         have hr372 := row_kept_new hr371 hg247
         have hr373 := row_kept_at hr244 hg243 (ha237)
         have hr374 := row_kept_new hr373 hg247
         refine dr_op (i := 6) h272 rfl rfl rfl rfl (op_call (args := #[.agg #[.int .i64 y219.d.k, .int .i64 y219.d.nd, .int .i64 y219.d.n, .int .i64 y219.d.ak, .int .i64 y219.d.an, .string y219.d.ky, .string y219.d.tt, .int .u64 y219.d.at_, .int .i64 y219.d.am, y219.ov]]) (R := fun res xw => ∃ u : Value, res = .agg #[.int .i64 ((cleanE y219.d).k), .int .i64 ((cleanE y219.d).nd), .int .i64 ((cleanE y219.d).n), .int .i64 ((cleanE y219.d).ak), .int .i64 ((cleanE y219.d).an), .string ((cleanE y219.d).ky), .string ((cleanE y219.d).tt), .int .u64 ((cleanE y219.d).at_), .int .i64 ((cleanE y219.d).am), u] ∧ SLw xw u (cleanE y219.d).ops ∧ Below w246.heap.size w246 xw) rfl rfl rfl (by kernel_rfl) (by kernel_rfl) (Try.call24 _ _) (rcl_any y219.d (y219.ov) w246 (oky219.sl.below hB262)) (by rintro e x ⟨u, rfl, h1, h2⟩; exact ⟨_, rfl, u, rfl, h1, h2⟩)) ?_ ?_; clear h272
         ·
          rintro _ w369 ⟨u375, rfl, hr376, hb377⟩
          have hz378 := hb377.size
          have hB379 := hb_call hB262 hb377
          have hNR380 := hNR266.below hb377
          have hk381 := hk267.below hb377
          exact ⟨hB379, hNR380, hk381⟩
         rintro _ w369 a368 ⟨u375, rfl, hr376, hb377⟩ h368
         have hz378 := hb377.size
         have hB379 := hb_call hB262 hb377
         have hNR380 := hNR266.below hb377
         have hk381 := hk267.below hb377
         refine dr_many [1, 7] (by kernel_rfl) (by simp) ⟨?_, ?_, trivial⟩
         ·
          refine dr_op (i := 1) h368 rfl rfl rfl rfl (op_new (v := fun N => .slice (some ⟨N, 0, none⟩) 1 1) (T := 60) (cs := #[.int .i64 ((cleanE y219.d).k), .int .i64 ((cleanE y219.d).nd), .int .i64 ((cleanE y219.d).n), .int .i64 ((cleanE y219.d).ak), .int .i64 ((cleanE y219.d).an), .string ((cleanE y219.d).ky), .string ((cleanE y219.d).tt), .int .u64 ((cleanE y219.d).at_), .int .i64 ((cleanE y219.d).am), u224]) (by kernel_rfl) (by kernel_rfl) (by kernel_rfl)) ?_ ?_; clear h368
          ·
           rintro _ w383 ⟨N384, rfl, hN387, hz388, hk386, hg385⟩
           have hr390 := row_kept_new hr372 (below_grown hb377)
           have ha389 := row_fresh hr390 hN387
           have hr392 := row_kept_new hr374 (below_grown hb377)
           have ha391 := row_fresh hr392 hN387
           have hz393 := hg385.size
           have hB394 := hb_new hB379 hg385
           have hNR395 := hNR380.new hg385
           have hk396 := hk381.kept hg385 (by simp)
           exact ⟨hB394, hNR395, hk396⟩
          rintro _ w383 a382 ⟨N384, rfl, hN387, hz388, hk386, hg385⟩ h382
          have hr390 := row_kept_new hr372 (below_grown hb377)
          have ha389 := row_fresh hr390 hN387
          have hr392 := row_kept_new hr374 (below_grown hb377)
          have ha391 := row_fresh hr392 hN387
          have hz393 := hg385.size
          try dsimp only at h382
          have hB394 := hb_new hB379 hg385
          have hNR395 := hNR380.new hg385
          have hk396 := hk381.kept hg385 (by simp)
          refine d1 7 h382 rfl rfl (op_new (v := fun N => .slice (some ⟨N, 0, none⟩) 1 1) (T := 60) (cs := #[.int .i64 ((cleanE y219.d).k), .int .i64 ((cleanE y219.d).nd), .int .i64 ((cleanE y219.d).n), .int .i64 ((cleanE y219.d).ak), .int .i64 ((cleanE y219.d).an), .string ((cleanE y219.d).ky), .string ((cleanE y219.d).tt), .int .u64 ((cleanE y219.d).at_), .int .i64 ((cleanE y219.d).am), u375]) (by kernel_rfl) (by kernel_rfl) (by kernel_rfl)) ?_ ?_; clear h382
          ·
           rintro _ w398 ⟨N399, rfl, hN402, hz403, hk401, hg400⟩
           have hr405 := row_kept_new hr390 hg385
           have ha404 := row_fresh hr405 hN402
           have hr407 := row_kept_new hr392 hg385
           have ha406 := row_fresh hr407 hN402
           have hz408 := hg400.size
           have hB409 := hb_new hB394 hg400
           have hNR410 := hNR395.new hg400
           have hk411 := hk396.kept hg400 (by simp)
           exact ⟨hB409, hNR410, hk411⟩
          rintro _ w398 a397 ⟨N399, rfl, hN402, hz403, hk401, hg400⟩ h397
          have hr405 := row_kept_new hr390 hg385
          have ha404 := row_fresh hr405 hN402
          have hr407 := row_kept_new hr392 hg385
          have ha406 := row_fresh hr407 hN402
          have hz408 := hg400.size
          try dsimp only at h397
          have hB409 := hb_new hB394 hg400
          have hNR410 := hNR395.new hg400
          have hk411 := hk396.kept hg400 (by simp)
          have hr414 := row_kept_new hr407 hg400
          have hNR415 := hr376.new hg385
          have hNR416 := hNR415.new hg400
          have hk418 := hk386.kept hg400 (by simp)
          have hr417 := row_of_cells (enc := evE) (sz := 10) ([(EvX.mk (cleanE y219.d) u224)] : List EvX) hk418 (Nat.le_refl _) rfl rfl (by unfold maxLen; simp)
          have hr419 := row_of_cells (enc := evE) (sz := 10) ([(EvX.mk (cleanE y219.d) u375)] : List EvX) hk401 (Nat.le_refl _) rfl rfl (by unfold maxLen; simp)
          refine d1 8 h397 rfl rfl (op_call (args := #[.slice (some ⟨N384, 0, none⟩) 1 1, .slice (some ⟨N399, 0, none⟩) 1 1]) (R := fun res xw => res = .bool true ∧ Below w398.heap.size w398 xw) rfl rfl rfl (by kernel_rfl) (by kernel_rfl) (Try.call20 _ _) (sameEv_any (.slice (some ⟨N384, 0, none⟩) 1 1) ([(EvX.mk (cleanE y219.d) u224)] : List EvX) (.slice (some ⟨N399, 0, none⟩) 1 1) ([(EvX.mk (cleanE y219.d) u375)] : List EvX) w398 (row_sl hr417 evE_len) (fun z hz => by rw [List.mem_singleton] at hz; subst hz; exact ⟨(row_sl hr414 opE_len)⟩) (row_sl hr419 evE_len) (fun z hz => by rw [List.mem_singleton] at hz; subst hz; exact ⟨hNR416⟩) (rfl)) (by rintro e x ⟨rfl, hb420⟩; exact ⟨_, rfl, ⟨rfl, hb420⟩⟩)) ?_ ?_; clear h397
          ·
           rintro _ w413 ⟨rfl, hb420⟩
           have hz421 := hb420.size
           have hB422 := hb_call hB409 hb420
           have hNR423 := hNR410.below hb420
           have hk424 := hk411.below hb420
           exact ⟨hB422, hNR423, hk424⟩
          rintro _ w413 a412 ⟨rfl, hb420⟩ h412
          have hz421 := hb420.size
          have hB422 := hb_call hB409 hb420
          have hNR423 := hNR410.below hb420
          have hk424 := hk411.below hb420
          refine dk0 9 (v := .bool false) h412 rfl rfl ⟨hB422, hNR423, hk424⟩ fun a425 h425 => ?_; clear h412
          refine dr_done (by kernel_rfl) ?_
          refine co_then ?_
          refine co_false h425 rfl ?_
          refine wp_skip ?_
          refine co_then ?_
          refine co_reg ?_
          refine pk0 (v := u) h425 rfl fun a426 h426 => ?_; clear h425
          refine pk (v := .agg #[.int .i64 ((cleanE y219.d).k), .int .i64 ((cleanE y219.d).nd), .int .i64 ((cleanE y219.d).n), .int .i64 ((cleanE y219.d).ak), .int .i64 ((cleanE y219.d).an), .string ((cleanE y219.d).ky), .string ((cleanE y219.d).tt), .int .u64 ((cleanE y219.d).at_), .int .i64 ((cleanE y219.d).am), u224]) h426 rfl (rn_loadN rfl rfl Try.underlying60 rfl (by kernel_rfl) hk424.all) fun a427 h427 => ?_; clear h426
          refine pw h427 rfl (op_new (v := fun N => .slice (some ⟨N, 0, none⟩) 1 1) (T := 60) (cs := #[.int .i64 ((cleanE y219.d).k), .int .i64 ((cleanE y219.d).nd), .int .i64 ((cleanE y219.d).n), .int .i64 ((cleanE y219.d).ak), .int .i64 ((cleanE y219.d).an), .string ((cleanE y219.d).ky), .string ((cleanE y219.d).tt), .int .u64 ((cleanE y219.d).at_), .int .i64 ((cleanE y219.d).am), u224]) (by kernel_rfl) (by kernel_rfl) (by kernel_rfl)) ?_; clear h427
          rintro _ w429 a428 ⟨N430, rfl, hN433, hz434, hk432, hg431⟩ h428
          have hr436 := row_kept_new hr405 hg400
          have hr437 := row_kept_new hr436 (below_grown hb420)
          have ha435 := row_fresh hr437 hN433
          have hr439 := row_kept_new hr414 (below_grown hb420)
          have ha438 := row_fresh hr439 hN433
          have hr441 := row_kept_new hr417 (below_grown hb420)
          have ha440 := row_fresh hr441 hN433
          have hr443 := row_kept_new hr419 (below_grown hb420)
          have ha442 := row_fresh hr443 hN433
          have hz444 := hg431.size
          try dsimp only at h428
          have hr451 := row_kept_new hr437 hg431
          have hr452 := row_kept_new hr439 hg431
          refine pw h428 rfl (op_append rfl w.heap.size 60 (z := .agg #[.int .i64 0, .int .i64 0, .int .i64 0, .int .i64 0, .int .i64 0, .string (⟨#[]⟩), .string (⟨#[]⟩), .int .u64 0, .int .i64 0, .slice none 0 0]) (size := 10) (bytes := 112) Try.underlying50 (by kernel_rfl) rfl rfl rfl hr451 rfl hk432 rfl (all_cons rfl (all_cons rfl (all_cons rfl (all_cons rfl (all_cons rfl (all_cons rfl (all_cons rfl (all_cons rfl (all_cons rfl (all_cons (row_one hr452) all_nil)))))))))) (by first | omega | (simp only [List.length_nil, List.length_append, List.length_cons, List.length_take, List.length_drop]; omega)) (by first | omega | (simp only [List.length_nil, List.length_append, List.length_cons, List.length_take, List.length_drop]; omega)) (by omega)) ?_; clear h428
          rintro v447 w446 a445 ⟨hr448, hg449⟩ h445
          have hr448' : w446.ownsRow w.heap.size 60 10 v447 ((us ++ [(EvX.mk (cleanE y219.d) u224)]).length) ((us ++ [(EvX.mk (cleanE y219.d) u224)]).flatMap evE) := row_push (y := (EvX.mk (cleanE y219.d) u224)) hr448 rfl rfl; clear hr448
          have hz453 := hg449.size
          refine pk0 (v := v447) h445 rfl fun a454 h454 => ?_; clear h445
          refine pl_nil ?_
          refine co_blockN ?_
          refine co_then ?_
          refine co_reg ?_
          refine pk0 (v := .int .i64 ((i : Nat) : Int)) h454 rfl fun a455 h455 => ?_; clear h454
          refine pk (v := .int .i64 ((i + 1 : Nat) : Int)) h455 rfl (rn_arith' rfl rfl rfl rfl rfl rfl (IntWalk.i64_in _ (by omega)) (by omega)) fun a456 h456 => ?_; clear h455
          refine pk0 (v := .int .i64 ((i + 1 : Nat) : Int)) h456 rfl fun a457 h457 => ?_; clear h456
          refine pl_nil ?_
          refine co_then ?_
          refine ⟨(l.length - (i + 1)), by omega, ?_⟩
          have hin' := cl_snoc (u := u224) hus hy219
          have hNR458 := hNR423.new hg431
          have hNR459 := hNR458.row hr451 (by decide) hg449
          have hr460 := row_kept_row hr452 hr451 hg449 (by decide)
          have hB461 := hb_new hB422 hg431
          have hB462 := hb_row hB461 hr451 (by omega) hg449
          exact ⟨i + 1, v447, us ++ [(EvX.mk (cleanE y219.d) u224)], h457.sub ⟨rfl, rfl, rfl, rfl, rfl, rfl, trivial⟩, rfl, by omega, by first | rfl | exact hin', by first | rfl | (simp; omega), (row_eq hr448' (rfl)), (hNR459.snoc hr460), hB462⟩
         ·
          refine dr_op (i := 7) h368 rfl rfl rfl rfl (op_new (v := fun N => .slice (some ⟨N, 0, none⟩) 1 1) (T := 60) (cs := #[.int .i64 ((cleanE y219.d).k), .int .i64 ((cleanE y219.d).nd), .int .i64 ((cleanE y219.d).n), .int .i64 ((cleanE y219.d).ak), .int .i64 ((cleanE y219.d).an), .string ((cleanE y219.d).ky), .string ((cleanE y219.d).tt), .int .u64 ((cleanE y219.d).at_), .int .i64 ((cleanE y219.d).am), u375]) (by kernel_rfl) (by kernel_rfl) (by kernel_rfl)) ?_ ?_; clear h368
          ·
           rintro _ w464 ⟨N465, rfl, hN468, hz469, hk467, hg466⟩
           have hr471 := row_kept_new hr372 (below_grown hb377)
           have ha470 := row_fresh hr471 hN468
           have hr473 := row_kept_new hr374 (below_grown hb377)
           have ha472 := row_fresh hr473 hN468
           have hz474 := hg466.size
           have hB475 := hb_new hB379 hg466
           have hNR476 := hNR380.new hg466
           have hk477 := hk381.kept hg466 (by simp)
           exact ⟨hB475, hNR476, hk477⟩
          rintro _ w464 a463 ⟨N465, rfl, hN468, hz469, hk467, hg466⟩ h463
          have hr471 := row_kept_new hr372 (below_grown hb377)
          have ha470 := row_fresh hr471 hN468
          have hr473 := row_kept_new hr374 (below_grown hb377)
          have ha472 := row_fresh hr473 hN468
          have hz474 := hg466.size
          try dsimp only at h463
          have hB475 := hb_new hB379 hg466
          have hNR476 := hNR380.new hg466
          have hk477 := hk381.kept hg466 (by simp)
          refine d1 1 h463 rfl rfl (op_new (v := fun N => .slice (some ⟨N, 0, none⟩) 1 1) (T := 60) (cs := #[.int .i64 ((cleanE y219.d).k), .int .i64 ((cleanE y219.d).nd), .int .i64 ((cleanE y219.d).n), .int .i64 ((cleanE y219.d).ak), .int .i64 ((cleanE y219.d).an), .string ((cleanE y219.d).ky), .string ((cleanE y219.d).tt), .int .u64 ((cleanE y219.d).at_), .int .i64 ((cleanE y219.d).am), u224]) (by kernel_rfl) (by kernel_rfl) (by kernel_rfl)) ?_ ?_; clear h463
          ·
           rintro _ w479 ⟨N480, rfl, hN483, hz484, hk482, hg481⟩
           have hr486 := row_kept_new hr471 hg466
           have ha485 := row_fresh hr486 hN483
           have hr488 := row_kept_new hr473 hg466
           have ha487 := row_fresh hr488 hN483
           have hz489 := hg481.size
           have hB490 := hb_new hB475 hg481
           have hNR491 := hNR476.new hg481
           have hk492 := hk477.kept hg481 (by simp)
           exact ⟨hB490, hNR491, hk492⟩
          rintro _ w479 a478 ⟨N480, rfl, hN483, hz484, hk482, hg481⟩ h478
          have hr486 := row_kept_new hr471 hg466
          have ha485 := row_fresh hr486 hN483
          have hr488 := row_kept_new hr473 hg466
          have ha487 := row_fresh hr488 hN483
          have hz489 := hg481.size
          try dsimp only at h478
          have hB490 := hb_new hB475 hg481
          have hNR491 := hNR476.new hg481
          have hk492 := hk477.kept hg481 (by simp)
          have hr495 := row_kept_new hr488 hg481
          have hNR496 := hr376.new hg466
          have hNR497 := hNR496.new hg481
          have hr498 := row_of_cells (enc := evE) (sz := 10) ([(EvX.mk (cleanE y219.d) u224)] : List EvX) hk482 (Nat.le_refl _) rfl rfl (by unfold maxLen; simp)
          have hk500 := hk467.kept hg481 (by simp)
          have hr499 := row_of_cells (enc := evE) (sz := 10) ([(EvX.mk (cleanE y219.d) u375)] : List EvX) hk500 (Nat.le_refl _) rfl rfl (by unfold maxLen; simp)
          refine d1 8 h478 rfl rfl (op_call (args := #[.slice (some ⟨N480, 0, none⟩) 1 1, .slice (some ⟨N465, 0, none⟩) 1 1]) (R := fun res xw => res = .bool true ∧ Below w479.heap.size w479 xw) rfl rfl rfl (by kernel_rfl) (by kernel_rfl) (Try.call20 _ _) (sameEv_any (.slice (some ⟨N480, 0, none⟩) 1 1) ([(EvX.mk (cleanE y219.d) u224)] : List EvX) (.slice (some ⟨N465, 0, none⟩) 1 1) ([(EvX.mk (cleanE y219.d) u375)] : List EvX) w479 (row_sl hr498 evE_len) (fun z hz => by rw [List.mem_singleton] at hz; subst hz; exact ⟨(row_sl hr495 opE_len)⟩) (row_sl hr499 evE_len) (fun z hz => by rw [List.mem_singleton] at hz; subst hz; exact ⟨hNR497⟩) (rfl)) (by rintro e x ⟨rfl, hb501⟩; exact ⟨_, rfl, ⟨rfl, hb501⟩⟩)) ?_ ?_; clear h478
          ·
           rintro _ w494 ⟨rfl, hb501⟩
           have hz502 := hb501.size
           have hB503 := hb_call hB490 hb501
           have hNR504 := hNR491.below hb501
           have hk505 := hk492.below hb501
           exact ⟨hB503, hNR504, hk505⟩
          rintro _ w494 a493 ⟨rfl, hb501⟩ h493
          have hz502 := hb501.size
          have hB503 := hb_call hB490 hb501
          have hNR504 := hNR491.below hb501
          have hk505 := hk492.below hb501
          refine dk0 9 (v := .bool false) h493 rfl rfl ⟨hB503, hNR504, hk505⟩ fun a506 h506 => ?_; clear h493
          refine dr_done (by kernel_rfl) ?_
          refine co_then ?_
          refine co_false h506 rfl ?_
          refine wp_skip ?_
          refine co_then ?_
          refine co_reg ?_
          refine pk0 (v := u) h506 rfl fun a507 h507 => ?_; clear h506
          refine pk (v := .agg #[.int .i64 ((cleanE y219.d).k), .int .i64 ((cleanE y219.d).nd), .int .i64 ((cleanE y219.d).n), .int .i64 ((cleanE y219.d).ak), .int .i64 ((cleanE y219.d).an), .string ((cleanE y219.d).ky), .string ((cleanE y219.d).tt), .int .u64 ((cleanE y219.d).at_), .int .i64 ((cleanE y219.d).am), u224]) h507 rfl (rn_loadN rfl rfl Try.underlying60 rfl (by kernel_rfl) hk505.all) fun a508 h508 => ?_; clear h507
          refine pw h508 rfl (op_new (v := fun N => .slice (some ⟨N, 0, none⟩) 1 1) (T := 60) (cs := #[.int .i64 ((cleanE y219.d).k), .int .i64 ((cleanE y219.d).nd), .int .i64 ((cleanE y219.d).n), .int .i64 ((cleanE y219.d).ak), .int .i64 ((cleanE y219.d).an), .string ((cleanE y219.d).ky), .string ((cleanE y219.d).tt), .int .u64 ((cleanE y219.d).at_), .int .i64 ((cleanE y219.d).am), u224]) (by kernel_rfl) (by kernel_rfl) (by kernel_rfl)) ?_; clear h508
          rintro _ w510 a509 ⟨N511, rfl, hN514, hz515, hk513, hg512⟩ h509
          have hr517 := row_kept_new hr486 hg481
          have hr518 := row_kept_new hr517 (below_grown hb501)
          have ha516 := row_fresh hr518 hN514
          have hr520 := row_kept_new hr495 (below_grown hb501)
          have ha519 := row_fresh hr520 hN514
          have hr522 := row_kept_new hr498 (below_grown hb501)
          have ha521 := row_fresh hr522 hN514
          have hr524 := row_kept_new hr499 (below_grown hb501)
          have ha523 := row_fresh hr524 hN514
          have hz525 := hg512.size
          try dsimp only at h509
          have hr532 := row_kept_new hr518 hg512
          have hr533 := row_kept_new hr520 hg512
          refine pw h509 rfl (op_append rfl w.heap.size 60 (z := .agg #[.int .i64 0, .int .i64 0, .int .i64 0, .int .i64 0, .int .i64 0, .string (⟨#[]⟩), .string (⟨#[]⟩), .int .u64 0, .int .i64 0, .slice none 0 0]) (size := 10) (bytes := 112) Try.underlying50 (by kernel_rfl) rfl rfl rfl hr532 rfl hk513 rfl (all_cons rfl (all_cons rfl (all_cons rfl (all_cons rfl (all_cons rfl (all_cons rfl (all_cons rfl (all_cons rfl (all_cons rfl (all_cons (row_one hr533) all_nil)))))))))) (by first | omega | (simp only [List.length_nil, List.length_append, List.length_cons, List.length_take, List.length_drop]; omega)) (by first | omega | (simp only [List.length_nil, List.length_append, List.length_cons, List.length_take, List.length_drop]; omega)) (by omega)) ?_; clear h509
          rintro v528 w527 a526 ⟨hr529, hg530⟩ h526
          have hr529' : w527.ownsRow w.heap.size 60 10 v528 ((us ++ [(EvX.mk (cleanE y219.d) u224)]).length) ((us ++ [(EvX.mk (cleanE y219.d) u224)]).flatMap evE) := row_push (y := (EvX.mk (cleanE y219.d) u224)) hr529 rfl rfl; clear hr529
          have hz534 := hg530.size
          refine pk0 (v := v528) h526 rfl fun a535 h535 => ?_; clear h526
          refine pl_nil ?_
          refine co_blockN ?_
          refine co_then ?_
          refine co_reg ?_
          refine pk0 (v := .int .i64 ((i : Nat) : Int)) h535 rfl fun a536 h536 => ?_; clear h535
          refine pk (v := .int .i64 ((i + 1 : Nat) : Int)) h536 rfl (rn_arith' rfl rfl rfl rfl rfl rfl (IntWalk.i64_in _ (by omega)) (by omega)) fun a537 h537 => ?_; clear h536
          refine pk0 (v := .int .i64 ((i + 1 : Nat) : Int)) h537 rfl fun a538 h538 => ?_; clear h537
          refine pl_nil ?_
          refine co_then ?_
          refine ⟨(l.length - (i + 1)), by omega, ?_⟩
          have hin' := cl_snoc (u := u224) hus hy219
          have hNR539 := hNR504.new hg512
          have hNR540 := hNR539.row hr532 (by decide) hg530
          have hr541 := row_kept_row hr533 hr532 hg530 (by decide)
          have hB542 := hb_new hB503 hg512
          have hB543 := hb_row hB542 hr532 (by omega) hg530
          exact ⟨i + 1, v528, us ++ [(EvX.mk (cleanE y219.d) u224)], h538.sub ⟨rfl, rfl, rfl, rfl, rfl, rfl, trivial⟩, rfl, by omega, by first | rfl | exact hin', by first | rfl | (simp; omega), (row_eq hr529' (rfl)), (hNR540.snoc hr541), hB543⟩
   ·
    rw [hc23] at h22
    have hp544 : ((s.size : Nat) : Int) > 4000 := of_decide_eq_true hc23
    clear hc23
    refine co_true h22 rfl ?_
    refine co_seq ?_
    refine co_reg ?_
    refine pw h22 rfl (op_call (args := #[]) (R := fun res xw => res = .bool true ∧ Below w4.heap.size w4 xw) rfl rfl rfl (by kernel_rfl) (by kernel_rfl) (Try.call17 _ _) (awake40_any w4) (by rintro e x ⟨rfl, h⟩; exact ⟨_, rfl, rfl, h⟩)) ?_; clear h22
    rintro _ w546 a545 ⟨rfl, hb547⟩ h545
    have hz548 := hb547.size
    refine pk0 (v := .bool true) h545 rfl fun a549 h549 => ?_; clear h545
    refine pl_nil ?_
    refine co_then ?_
    refine wp_ret ?_
    refine co_thenR ?_
    refine co_ret1 h549 rfl rfl ?_
    have hB550 := hb_call hB10 hb547
    exact ⟨rfl, hB550⟩
  ·
   rw [hc17] at h16
   have hp551 : ((l.length : Nat) : Int) > 100 := of_decide_eq_true hc17
   clear hc17
   refine psk h16 rfl fun a552 h552 => ?_; clear h16
   refine psk h552 rfl fun a553 h553 => ?_; clear h552
   refine psk h553 rfl fun a554 h554 => ?_; clear h553
   refine pk0 (v := .bool true) h554 rfl fun a555 h555 => ?_; clear h554
   refine pl_nil ?_
   refine co_then ?_
   refine co_true h555 rfl ?_
   refine co_seq ?_
   refine co_reg ?_
   refine pw h555 rfl (op_call (args := #[]) (R := fun res xw => res = .bool true ∧ Below w4.heap.size w4 xw) rfl rfl rfl (by kernel_rfl) (by kernel_rfl) (Try.call17 _ _) (awake40_any w4) (by rintro e x ⟨rfl, h⟩; exact ⟨_, rfl, rfl, h⟩)) ?_; clear h555
   rintro _ w557 a556 ⟨rfl, hb558⟩ h556
   have hz559 := hb558.size
   refine pk0 (v := .bool true) h556 rfl fun a560 h560 => ?_; clear h556
   refine pl_nil ?_
   refine co_then ?_
   refine wp_ret ?_
   refine co_thenR ?_
   refine co_ret1 h560 rfl rfl ?_
   have hB561 := hb_call hB10 hb558
   exact ⟨rfl, hB561⟩
 ·
  rw [hc9] at h8
  have hp562 : ptsE (l.take 400) > 20 := of_decide_eq_true hc9
  clear hc9
  refine psk h8 rfl fun a563 h563 => ?_; clear h8
  refine psk h563 rfl fun a564 h564 => ?_; clear h563
  refine psk h564 rfl fun a565 h565 => ?_; clear h564
  refine pk0 (v := .bool true) h565 rfl fun a566 h566 => ?_; clear h565
  refine pk0 (v := .bool true) h566 rfl fun a567 h567 => ?_; clear h566
  refine psk h567 rfl fun a568 h568 => ?_; clear h567
  refine psk h568 rfl fun a569 h569 => ?_; clear h568
  refine psk h569 rfl fun a570 h570 => ?_; clear h569
  refine pk0 (v := .bool true) h570 rfl fun a571 h571 => ?_; clear h570
  refine pl_nil ?_
  refine co_then ?_
  refine co_true h571 rfl ?_
  refine co_seq ?_
  refine co_reg ?_
  refine pw h571 rfl (op_call (args := #[]) (R := fun res xw => res = .bool true ∧ Below w4.heap.size w4 xw) rfl rfl rfl (by kernel_rfl) (by kernel_rfl) (Try.call17 _ _) (awake40_any w4) (by rintro e x ⟨rfl, h⟩; exact ⟨_, rfl, rfl, h⟩)) ?_; clear h571
  rintro _ w573 a572 ⟨rfl, hb574⟩ h572
  have hz575 := hb574.size
  refine pk0 (v := .bool true) h572 rfl fun a576 h576 => ?_; clear h572
  refine pl_nil ?_
  refine co_then ?_
  refine wp_ret ?_
  refine co_thenR ?_
  refine co_ret1 h576 rfl rfl ?_
  have hB577 := hb_call hB10 hb574
  exact ⟨rfl, hB577⟩

theorem scriptBack_c {m : Nat} (v : Value) (l : List EvX) (s : ByteArray) (w : World) (s1 : SliceOf evE 10 w v l) (g1 : ∀ z ∈ l, EvM w m z) (w1 : s.size ≤ 140737488351232) (b1 : m ≤ 1048576) (b2 : s.size ≤ 1048576) :
    Calls Try.prog 6 #[v, .string s] w fun e w' => e = .returned (.bool true) ∧ Below w.heap.size w w' := scriptBack_any v l s w s1 (fun z hz => (g1 z hz).ok b1) fun hp hl z hz => by
  have h := ((ptsE_mem (l.take 400) 0 20 hp).2 z (by rw [List.take_of_length_le (by omega)]; exact hz)).1
  omega

end Go.Proofs.Ytdgboikkgeioeaa
