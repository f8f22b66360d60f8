/- catenalaw18: AdoptAgreed. Conditions: none. -/
import Derived.Test.YthmnndbpadegnaaAdpG
import Derived.Test.YthmnndbpadegnaaAdS
namespace Go.Proofs.Ythmnndbpadegnaa
open Go.RowKit Go.PlainAid
set_option linter.unusedVariables false
set_option linter.unusedSimpArgs false

set_option maxRecDepth 100000 in
set_option maxHeartbeats 6400000 in
theorem adoptAgreed_law (v : Value) (l : List EntT) (v2 : Value) (l2 : List EntT) (w : World) (hs : SliceOf entE 4 w v l) (hok : ∀ z ∈ l, EntOkS w z) (hs2 : SliceOf entE 4 w v2 l2) (hok2 : ∀ z ∈ l2, EntOkS w z) (hlA : l.length ≤ 2932031007403) (hlB : l2.length ≤ 2932031007403) :
    Calls Try.prog 11 #[v, v2] w fun e w' => e = .returned (.bool true) ∧ Below w.heap.size w w' := by
 have hB0 := Below.refl w.heap.size w
 have hl_hs := sl_len hs
 have hl_hs2 := sl_len hs2
 refine co_enter (n := 117) Try.func11 rfl rfl rfl [(0, v), (1, v2)] rfl (fun a h0 => ?_)
 refine co_seq ?_
 refine co_reg ?_
 refine pk0 (v := .bool false) h0 rfl fun a1 h1 => ?_; clear h0
 refine pl_nil ?_
 refine co_then ?_
 refine co_seq ?_
 refine co_seq ?_
 refine co_reg ?_
 refine pk0 (v := v) h1 rfl fun a2 h2 => ?_; clear h1
 refine pw h2 rfl (op_call (args := #[v]) (R := fun res xw => res = .int .i64 (muchN l) ∧ Below w.heap.size w xw) rfl rfl rfl (by kernel_rfl) (by kernel_rfl) (Try.call41 _ _) (much_any v l w (hs.below hB0) (fun z hz => ⟨(hok z hz).1.below hB0, (hok z hz).2⟩) hlA) (by rintro e x ⟨rfl, h⟩; exact ⟨_, rfl, rfl, h⟩)) ?_; clear h2
 rintro _ w4 a3 ⟨rfl, hb5⟩ h3
 have hz6 := hb5.size
 refine pk0 (v := .bool (decide (muchN l > 60))) h3 rfl fun a7 h7 => ?_; clear h3
 refine pk0 (v := .bool (decide (muchN l > 60))) h7 rfl fun a8 h8 => ?_; clear h7
 have hB10 := hb_call hB0 hb5
 cases hc9 : (decide (muchN l > 60))
 ·
  rw [hc9] at h8
  have hp11 : ¬ (muchN l > 60) := of_decide_eq_false hc9
  clear hc9
  refine pk0 (v := v2) h8 rfl fun a12 h12 => ?_; clear h8
  refine pw h12 rfl (op_call (args := #[v2]) (R := fun res xw => res = .int .i64 (muchN l2) ∧ Below w4.heap.size w4 xw) rfl rfl rfl (by kernel_rfl) (by kernel_rfl) (Try.call41 _ _) (much_any v2 l2 w4 (hs2.below hB10) (fun z hz => ⟨(hok2 z hz).1.below hB10, (hok2 z hz).2⟩) hlB) (by rintro e x ⟨rfl, h⟩; exact ⟨_, rfl, rfl, h⟩)) ?_; clear h12
  rintro _ w14 a13 ⟨rfl, hb15⟩ h13
  have hz16 := hb15.size
  refine pk0 (v := .bool (decide (muchN l2 > 60))) h13 rfl fun a17 h17 => ?_; clear h13
  refine pk0 (v := .bool (decide (muchN l2 > 60))) h17 rfl fun a18 h18 => ?_; clear h17
  refine pk0 (v := .bool (decide (muchN l2 > 60))) h18 rfl fun a19 h19 => ?_; clear h18
  have hB21 := hb_call hB10 hb15
  cases hc20 : (decide (muchN l2 > 60))
  ·
   rw [hc20] at h19
   have hp22 : ¬ (muchN l2 > 60) := of_decide_eq_false hc20
   clear hc20
   refine pk0 (v := v) h19 rfl fun a23 h23 => ?_; clear h19
   refine pw h23 rfl (op_call (args := #[v]) (R := fun res xw => res = .int .i64 (rightI l) ∧ Below w14.heap.size w14 xw) rfl rfl rfl (by kernel_rfl) (by kernel_rfl) (Try.call34 _ _) (ritemRight_any v l w14 (hs.below hB21) (fun z hz => (hok z hz).1.below hB21)) (by rintro e x ⟨rfl, h⟩; exact ⟨_, rfl, rfl, h⟩)) ?_; clear h23
   rintro _ w25 a24 ⟨rfl, hb26⟩ h24
   have hz27 := hb26.size
   refine pk0 (v := .bool (rightI l != 0)) h24 rfl fun a28 h28 => ?_; clear h24
   refine pk0 (v := .bool (rightI l != 0)) h28 rfl fun a29 h29 => ?_; clear h28
   refine pk0 (v := .bool (rightI l != 0)) h29 rfl fun a30 h30 => ?_; clear h29
   have hB32 := hb_call hB21 hb26
   cases hc31 : (rightI l != 0)
   ·
    rw [hc31] at h30
    have hp33 : ¬ (rightI l ≠ 0) := by first | simpa using hc31 | simpa [and_assoc] using hc31
    clear hc31
    refine pk0 (v := v2) h30 rfl fun a34 h34 => ?_; clear h30
    refine pw h34 rfl (op_call (args := #[v2]) (R := fun res xw => res = .int .i64 (rightI l2) ∧ Below w25.heap.size w25 xw) rfl rfl rfl (by kernel_rfl) (by kernel_rfl) (Try.call34 _ _) (ritemRight_any v2 l2 w25 (hs2.below hB32) (fun z hz => (hok2 z hz).1.below hB32)) (by rintro e x ⟨rfl, h⟩; exact ⟨_, rfl, rfl, h⟩)) ?_; clear h34
    rintro _ w36 a35 ⟨rfl, hb37⟩ h35
    have hz38 := hb37.size
    refine pk0 (v := .bool (rightI l2 != 0)) h35 rfl fun a39 h39 => ?_; clear h35
    refine pk0 (v := .bool (rightI l2 != 0)) h39 rfl fun a40 h40 => ?_; clear h39
    refine pl_nil ?_
    refine co_then ?_
    have hB42 := hb_call hB32 hb37
    cases hc41 : (rightI l2 != 0)
    ·
     rw [hc41] at h40
     have hp43 : ¬ (rightI l2 ≠ 0) := by first | simpa using hc41 | simpa [and_assoc] using hc41
     clear hc41
     refine co_false h40 rfl ?_
     refine wp_skip ?_
     refine co_then ?_
     refine co_seq ?_
     refine co_reg ?_
     refine pk0 (v := .int .i64 0) h40 rfl fun a44 h44 => ?_; clear h40
     refine pl_nil ?_
     refine co_then ?_
     refine co_seq ?_
     refine wp_block ?_
     have hRI := RI.of_right (by omega : rightI l = 0)
     have hRO := RI.of_right (by omega : rightI l2 = 0)
     have hlA60 := much_60 (by omega : ¬ muchN l > 60)
     have hlB60 := much_60 (by omega : ¬ muchN l2 > 60)
     have hp9 : PreP l l2 0 := fun i hi => absurd hi (by omega)
     have h45 : Slots 117 [(0, v), (1, v2), (5, .int .i64 0)] _ := h44.sub ⟨rfl, rfl, rfl, trivial⟩; clear h44
     refine co_loop (fun mm a x => ∃ (k : Nat), Slots 117 [(0, v), (1, v2), (5, .int .i64 ((k : Nat) : Int))] a ∧ mm = l.length - k ∧ (k ≤ l.length) ∧ (k ≤ l2.length) ∧ (PreP l l2 k) ∧ Below w.heap.size w x) (l.length - 0) ?_ ?_
     · exact ⟨0, h45.sub ⟨rfl, rfl, (slot_eq rfl (congrArg (Value.int .i64) (by first | rfl | omega))), trivial⟩, rfl, by omega, by omega, by exact hp9, hB42⟩
     · rintro k46 a47 w48 ⟨k, h47, rfl, hi49, hi50, hi51, hB52⟩
       have hz53 := hB52.size
       have hPre : PreP l l2 k := by assumption
       refine co_seq ?_
       refine co_seq ?_
       refine dr_gen (fun x => Below w.heap.size w x) (by kernel_rfl) (fun w54 hg55 => ?_) (fun w54 hg55 => ?_)
       ·
        have hz56 := hg55.size
        have hB57 := hb_new hB52 hg55
        exact hB57
       have hz58 := hg55.size
       have hB59 := hb_new hB52 hg55
       refine dk0 0 (v := .int .i64 ((k : Nat) : Int)) h47 rfl rfl hB59 fun a60 h60 => ?_; clear h47
       refine dk0 1 (v := v) h60 rfl rfl hB59 fun a61 h61 => ?_; clear h60
       refine dk 2 (v := .int .i64 ((l.length : Nat) : Int)) h61 rfl rfl hB59 (fun x hx => (rn_len rfl rfl Try.underlying39 (hs.below hx))) fun a62 h62 => ?_; clear h61
       refine dk0 3 (v := .bool (decide (((k : Nat) : Int) < ((l.length : Nat) : Int)))) h62 rfl rfl hB59 fun a63 h63 => ?_; clear h62
       refine dk0 4 (v := .bool (decide (((k : Nat) : Int) < ((l.length : Nat) : Int)))) h63 rfl rfl hB59 fun a64 h64 => ?_; clear h63
       cases hc65 : (decide (((k : Nat) : Int) < ((l.length : Nat) : Int)))
       ·
        rw [hc65] at h64
        have hp66 : ¬ (((k : Nat) : Int) < ((l.length : Nat) : Int)) := of_decide_eq_false hc65
        clear hc65
        refine dsk 5 h64 rfl rfl hB59 fun a67 h67 => ?_; clear h64
        refine dsk 6 h67 rfl rfl hB59 fun a68 h68 => ?_; clear h67
        refine dsk 7 h68 rfl rfl hB59 fun a69 h69 => ?_; clear h68
        refine dsk 8 h69 rfl rfl hB59 fun a70 h70 => ?_; clear h69
        refine dk0 9 (v := .bool false) h70 rfl rfl hB59 fun a71 h71 => ?_; clear h70
        refine dk0 10 (v := .bool false) h71 rfl rfl hB59 fun a72 h72 => ?_; clear h71
        refine dsk 11 h72 rfl rfl hB59 fun a73 h73 => ?_; clear h72
        refine dsk 12 h73 rfl rfl hB59 fun a74 h74 => ?_; clear h73
        refine dsk 13 h74 rfl rfl hB59 fun a75 h75 => ?_; clear h74
        refine dsk 14 h75 rfl rfl hB59 fun a76 h76 => ?_; clear h75
        refine dsk 15 h76 rfl rfl hB59 fun a77 h77 => ?_; clear h76
        refine dsk 16 h77 rfl rfl hB59 fun a78 h78 => ?_; clear h77
        refine dsk 17 h78 rfl rfl hB59 fun a79 h79 => ?_; clear h78
        refine dsk 18 h79 rfl rfl hB59 fun a80 h80 => ?_; clear h79
        refine dsk 19 h80 rfl rfl hB59 fun a81 h81 => ?_; clear h80
        refine dk0 20 (v := .bool false) h81 rfl rfl hB59 fun a82 h82 => ?_; clear h81
        refine dk0 21 (v := .bool false) h82 rfl rfl hB59 fun a83 h83 => ?_; clear h82
        refine dsk 22 h83 rfl rfl hB59 fun a84 h84 => ?_; clear h83
        refine dsk 23 h84 rfl rfl hB59 fun a85 h85 => ?_; clear h84
        refine dsk 24 h85 rfl rfl hB59 fun a86 h86 => ?_; clear h85
        refine dsk 25 h86 rfl rfl hB59 fun a87 h87 => ?_; clear h86
        refine dsk 26 h87 rfl rfl hB59 fun a88 h88 => ?_; clear h87
        refine dsk 27 h88 rfl rfl hB59 fun a89 h89 => ?_; clear h88
        refine dsk 28 h89 rfl rfl hB59 fun a90 h90 => ?_; clear h89
        refine dsk 29 h90 rfl rfl hB59 fun a91 h91 => ?_; clear h90
        refine dsk 30 h91 rfl rfl hB59 fun a92 h92 => ?_; clear h91
        refine dsk 31 h92 rfl rfl hB59 fun a93 h93 => ?_; clear h92
        refine dsk 32 h93 rfl rfl hB59 fun a94 h94 => ?_; clear h93
        refine dk0 33 (v := .bool false) h94 rfl rfl hB59 fun a95 h95 => ?_; clear h94
        refine dr_done (by kernel_rfl) ?_
        refine co_then ?_
        refine co_false h95 rfl ?_
        refine wp_exit ?_
        refine co_thenX ?_
        refine co_thenX ?_
        refine co_blockX ?_
        refine co_then ?_
        refine co_seq ?_
        refine co_reg ?_
        refine pk0 (v := v) h95 rfl fun a96 h96 => ?_; clear h95
        refine pk0 (v := v2) h96 rfl fun a97 h97 => ?_; clear h96
        refine pw h97 rfl (op_call (args := #[v, .int .i64 0, .int .i64 0, v2]) (R := fun res xw => ∃ (u : Value) (NS : List NtT), res = .tuple #[u, .int .i64 (((tkF (l.map e0) 0 0 l2).2.1 : Nat) : Int)] ∧ NtX xw u NS ∧ NS.map ntP = (tkF (l.map e0) 0 0 l2).1 ∧ Below w54.heap.size w54 xw) rfl rfl rfl (by kernel_rfl) (by kernel_rfl) (Try.call43 _ _) (takeX 0 0 w54 ((SlX.of hs hok hRI).below hB59) ((SlX.of hs2 hok2 hRO).below hB59) hRI (by omega) (by omega) (by omega)) (by rintro e x ⟨u, NS, h0, h⟩; rw [show (tkF (l.map e0) 0 0 l2).2.1 = (tkF (l.map e0) 0 0 l2).2.1 from rfl] at h0; exact ⟨_, h0, u, NS, rfl, h⟩)) ?_; clear h97
        rintro _ w99 a98 ⟨u100, NS101, rfl, hN102, hq103, hb104⟩ h98
        have hz105 := hb104.size
        have hl106 := sl_len hN102.1
        have hge := agd1 hPre (by omega) (by omega)
        refine pk0 (v := .tuple #[u100, .int .i64 (((tkF (l.map e0) 0 0 l2).2.1 : Nat) : Int)]) h98 rfl fun a107 h107 => ?_; clear h98
        refine pk0 (v := u100) h107 rfl fun a108 h108 => ?_; clear h107
        refine pk0 (v := .int .i64 (((tkF (l.map e0) 0 0 l2).2.1 : Nat) : Int)) h108 rfl fun a109 h109 => ?_; clear h108
        refine pk0 (v := u100) h109 rfl fun a110 h110 => ?_; clear h109
        refine pk0 (v := .int .i64 (((tkF (l.map e0) 0 0 l2).2.1 : Nat) : Int)) h110 rfl fun a111 h111 => ?_; clear h110
        refine pl_nil ?_
        refine co_then ?_
        refine co_seq ?_
        refine co_seq ?_
        refine co_reg ?_
        refine pk0 (v := .int .i64 0) h111 rfl fun a112 h112 => ?_; clear h111
        refine pl_nil ?_
        refine co_then ?_
        refine wp_block ?_
        have hsx9 := hN102
        have h113 : Slots 117 [(0, v), (1, v2), (5, .int .i64 ((k : Nat) : Int)), (6, u100), (8, .int .i64 0)] _ := h112.sub ⟨rfl, rfl, rfl, rfl, rfl, trivial⟩; clear h112
        refine co_loop (fun mm a x => ∃ (i : Nat), Slots 117 [(0, v), (1, v2), (5, .int .i64 ((k : Nat) : Int)), (6, u100), (8, .int .i64 ((i : Nat) : Int))] a ∧ mm = NS101.length - i ∧ (i ≤ NS101.length) ∧ NtX x u100 NS101 ∧ Below w.heap.size w x) (NS101.length - 0) ?_ ?_
        have hB114 := hb_call hB59 hb104
        · exact ⟨0, h113.sub ⟨rfl, rfl, rfl, rfl, (slot_eq rfl (congrArg (Value.int .i64) (by first | rfl | omega))), trivial⟩, rfl, by omega, hsx9, hB114⟩
        · rintro k115 a116 w117 ⟨i, h116, rfl, hi118, hf119, hB120⟩
          have hz121 := hB120.size
          refine co_seq ?_
          refine co_seq ?_
          refine co_reg ?_
          refine pk0 (v := .int .i64 ((i : Nat) : Int)) h116 rfl fun a122 h122 => ?_; clear h116
          refine pk0 (v := u100) h122 rfl fun a123 h123 => ?_; clear h122
          refine pk (v := .int .i64 ((NS101.length : Nat) : Int)) h123 rfl (rn_len rfl rfl Try.underlying72 (hf119.1)) fun a124 h124 => ?_; clear h123
          refine pk0 (v := .bool (decide (((i : Nat) : Int) < ((NS101.length : Nat) : Int)))) h124 rfl fun a125 h125 => ?_; clear h124
          refine pl_nil ?_
          refine co_then ?_
          cases hc126 : (decide (((i : Nat) : Int) < ((NS101.length : Nat) : Int)))
          ·
           rw [hc126] at h125
           have hp127 : ¬ (((i : Nat) : Int) < ((NS101.length : Nat) : Int)) := of_decide_eq_false hc126
           clear hc126
           refine co_false h125 rfl ?_
           refine wp_exit ?_
           refine co_thenX ?_
           refine co_thenX ?_
           refine co_blockX ?_
           refine co_then ?_
           refine co_seq ?_
           refine co_reg ?_
           refine pk0 (v := v) h125 rfl fun a128 h128 => ?_; clear h125
           refine pk0 (v := u100) h128 rfl fun a129 h129 => ?_; clear h128
           refine pw h129 rfl (op_call (args := #[v, u100]) (R := fun res xw => ∃ (u : Value) (X9 : List EntT), res = .tuple #[u, .bool true] ∧ SlX xw u X9 ∧ X9.map e0 = (tkF (l.map e0) 0 0 l2).2.2 ∧ X9.length ≤ 100 ∧ Below w117.heap.size w117 xw) rfl rfl rfl (by kernel_rfl) (by kernel_rfl) (Try.call50 _ _) (laid18_any v l u100 NS101 (tkF (l.map e0) 0 0 l2).2.2 w117 ((SlX.of hs hok hRI).below hB120) hf119.1 hf119.2 (by omega) (by rw [hq103]; exact rp_tk _ _ _ _)) (by rintro e x ⟨u, X, rfl, h⟩; exact ⟨_, rfl, u, X, rfl, h⟩)) ?_; clear h129
           rintro _ w131 a130 ⟨u132, X133, rfl, hX134, hK135, hx136, hb137⟩ h130
           have hz138 := hb137.size
           have hax := agd_x hge.2.1 hge.2.2 hK135
           have hkX := hax.2
           refine pk0 (v := .tuple #[u132, .bool true]) h130 rfl fun a139 h139 => ?_; clear h130
           refine pk0 (v := u132) h139 rfl fun a140 h140 => ?_; clear h139
           refine pk0 (v := .bool true) h140 rfl fun a141 h141 => ?_; clear h140
           refine pk0 (v := u132) h141 rfl fun a142 h142 => ?_; clear h141
           refine pk0 (v := .bool true) h142 rfl fun a143 h143 => ?_; clear h142
           refine pl_nil ?_
           refine co_then ?_
           refine co_seq ?_
           refine dr_gen (fun x => Below w.heap.size w x ∧ NtX x u100 NS101 ∧ SlX x u132 X133) (by kernel_rfl) (fun w144 hg145 => ?_) (fun w144 hg145 => ?_)
           ·
            have hz146 := hg145.size
            have hB147 := hb_call hB120 hb137
            have hB148 := hb_new hB147 hg145
            have hX149 := hf119.below hb137
            have hX150 := hX149.new hg145
            have hX151 := hX134.new hg145
            exact ⟨hB148, hX150, hX151⟩
           have hz152 := hg145.size
           have hB153 := hb_call hB120 hb137
           have hB154 := hb_new hB153 hg145
           have hX155 := hf119.below hb137
           have hX156 := hX155.new hg145
           have hX157 := hX134.new hg145
           refine dk0 0 (v := .bool true) h143 rfl rfl ⟨hB154, hX156, hX157⟩ fun a158 h158 => ?_; clear h143
           refine dk0 1 (v := .bool true) h158 rfl rfl ⟨hB154, hX156, hX157⟩ fun a159 h159 => ?_; clear h158
           refine dk0 2 (v := u132) h159 rfl rfl ⟨hB154, hX156, hX157⟩ fun a160 h160 => ?_; clear h159
           refine dk 3 (v := .int .i64 ((X133.length : Nat) : Int)) h160 rfl rfl ⟨hB154, hX156, hX157⟩ (fun x hx => (rn_len rfl rfl Try.underlying39 (hx.2.2.1))) fun a161 h161 => ?_; clear h160
           refine dk0 4 (v := .int .i64 ((k : Nat) : Int)) h161 rfl rfl ⟨hB154, hX156, hX157⟩ fun a162 h162 => ?_; clear h161
           refine dk0 5 (v := .bool (decide (((X133.length : Nat) : Int) ≥ ((k : Nat) : Int)))) h162 rfl rfl ⟨hB154, hX156, hX157⟩ fun a163 h163 => ?_; clear h162
           refine dk0 6 (v := .bool (decide (((X133.length : Nat) : Int) ≥ ((k : Nat) : Int)))) h163 rfl rfl ⟨hB154, hX156, hX157⟩ fun a164 h164 => ?_; clear h163
           refine dk0 7 (v := .bool (decide (((X133.length : Nat) : Int) ≥ ((k : Nat) : Int)))) h164 rfl rfl ⟨hB154, hX156, hX157⟩ fun a165 h165 => ?_; clear h164
           have hc166 : (decide (((X133.length : Nat) : Int) ≥ ((k : Nat) : Int))) = true := decide_eq_true (by omega)
           rw [hc166] at h165; clear hc166
           refine dk0 8 (v := u132) h165 rfl rfl ⟨hB154, hX156, hX157⟩ fun a167 h167 => ?_; clear h165
           refine dk0 9 (v := .int .i64 ((k : Nat) : Int)) h167 rfl rfl ⟨hB154, hX156, hX157⟩ fun a168 h168 => ?_; clear h167
           refine dk 10 (v := subV u132 0 k 4) h168 rfl rfl ⟨hB154, hX156, hX157⟩ (fun x hx => (rn_sliceTo rfl rfl rfl Try.underlying39 Try.sizeOf47 (hx.2.2.1) (by omega) (by omega))) fun a169 h169 => ?_; clear h168
           refine dk0 11 (v := v) h169 rfl rfl ⟨hB154, hX156, hX157⟩ fun a170 h170 => ?_; clear h169
           refine dk0 12 (v := .int .i64 ((k : Nat) : Int)) h170 rfl rfl ⟨hB154, hX156, hX157⟩ fun a171 h171 => ?_; clear h170
           refine dk 13 (v := subV v 0 k 4) h171 rfl rfl ⟨hB154, hX156, hX157⟩ (fun x hx => (rn_sliceTo rfl rfl rfl Try.underlying39 Try.sizeOf47 (hs.below hx.1) (by omega) (by omega))) fun a172 h172 => ?_; clear h171
           refine d1 14 h172 rfl rfl (op_call (args := #[subV u132 0 k 4, subV v 0 k 4]) (R := fun res xw => res = .bool true ∧ Below w144.heap.size w144 xw) rfl rfl rfl (by kernel_rfl) (by kernel_rfl) (Try.call23 _ _) (sameAllE_any (subV u132 0 k 4) (X133.take k) (subV v 0 k 4) (l.take k) w144 (SlX.sub hX157 (sl_take (hX157.1) _ (by omega)) (fun z hz => by first | exact List.mem_of_mem_take (List.mem_of_mem_drop hz) | exact List.mem_of_mem_drop hz | exact List.mem_of_mem_take hz)).1 (SlX.sub hX157 (sl_take (hX157.1) _ (by omega)) (fun z hz => by first | exact List.mem_of_mem_take (List.mem_of_mem_drop hz) | exact List.mem_of_mem_drop hz | exact List.mem_of_mem_take hz)).ok (SlX.sub ((SlX.of hs hok hRI).below hB154) (sl_take (hs.below hB154) _ (by omega)) (fun z hz => by first | exact List.mem_of_mem_take (List.mem_of_mem_drop hz) | exact List.mem_of_mem_drop hz | exact List.mem_of_mem_take hz)).1 (SlX.sub ((SlX.of hs hok hRI).below hB154) (sl_take (hs.below hB154) _ (by omega)) (fun z hz => by first | exact List.mem_of_mem_take (List.mem_of_mem_drop hz) | exact List.mem_of_mem_drop hz | exact List.mem_of_mem_take hz)).ok hax.1) (by rintro e x ⟨rfl, h⟩; exact ⟨_, rfl, rfl, h⟩)) ?_ ?_; clear h172
           ·
            rintro _ w174 ⟨rfl, hb175⟩
            have hz176 := hb175.size
            have hB177 := hb_call hB154 hb175
            have hX178 := hX156.below hb175
            have hX179 := hX157.below hb175
            exact ⟨hB177, hX178, hX179⟩
           rintro _ w174 a173 ⟨rfl, hb175⟩ h173
           have hz176 := hb175.size
           have hB177 := hb_call hB154 hb175
           have hX178 := hX156.below hb175
           have hX179 := hX157.below hb175
           refine dk0 15 (v := .bool true) h173 rfl rfl ⟨hB177, hX178, hX179⟩ fun a180 h180 => ?_; clear h173
           refine dk0 16 (v := .bool true) h180 rfl rfl ⟨hB177, hX178, hX179⟩ fun a181 h181 => ?_; clear h180
           refine dk0 17 (v := v) h181 rfl rfl ⟨hB177, hX178, hX179⟩ fun a182 h182 => ?_; clear h181
           refine dk0 18 (v := v2) h182 rfl rfl ⟨hB177, hX178, hX179⟩ fun a183 h183 => ?_; clear h182
           refine dk0 20 (v := .int .i64 ((k : Nat) : Int)) h183 rfl rfl ⟨hB177, hX178, hX179⟩ fun a184 h184 => ?_; clear h183
           refine d1 19 h184 rfl rfl (op_call (args := #[v, v2]) (R := fun res xw => ∃ n : Nat, res = .int .i64 ((n : Nat) : Int) ∧ BaseP l l2 n ∧ Below w174.heap.size w174 xw) rfl rfl rfl (by kernel_rfl) (by kernel_rfl) (Try.call48 _ _) (adoptBase_any v l v2 l2 w174 ((SlX.of hs hok hRI).below hB177).1 ((SlX.of hs2 hok2 hRO).below hB177).1) (by rintro e x ⟨n, rfl, h⟩; exact ⟨_, rfl, n, rfl, h⟩)) ?_ ?_; clear h184
           ·
            rintro _ w186 ⟨n187, rfl, hp188, hb189⟩
            have hz190 := hb189.size
            have hbk := base_ge hp188 hPre (by omega) (by omega)
            have hB191 := hb_call hB177 hb189
            have hX192 := hX178.below hb189
            have hX193 := hX179.below hb189
            exact ⟨hB191, hX192, hX193⟩
           rintro _ w186 a185 ⟨n187, rfl, hp188, hb189⟩ h185
           have hz190 := hb189.size
           have hbk := base_ge hp188 hPre (by omega) (by omega)
           have hB191 := hb_call hB177 hb189
           have hX192 := hX178.below hb189
           have hX193 := hX179.below hb189
           refine dk0 21 (v := .bool (decide (((n187 : Nat) : Int) ≥ ((k : Nat) : Int)))) h185 rfl rfl ⟨hB191, hX192, hX193⟩ fun a194 h194 => ?_; clear h185
           refine dk0 22 (v := .bool (decide (((n187 : Nat) : Int) ≥ ((k : Nat) : Int)))) h194 rfl rfl ⟨hB191, hX192, hX193⟩ fun a195 h195 => ?_; clear h194
           refine dk0 23 (v := .bool (decide (((n187 : Nat) : Int) ≥ ((k : Nat) : Int)))) h195 rfl rfl ⟨hB191, hX192, hX193⟩ fun a196 h196 => ?_; clear h195
           have hc197 : (decide (((n187 : Nat) : Int) ≥ ((k : Nat) : Int))) = true := decide_eq_true (by omega)
           rw [hc197] at h196; clear hc197
           refine d1 24 h196 rfl rfl (op_call (args := #[]) (R := fun res xw => res = .bool true ∧ Below w186.heap.size w186 xw) rfl rfl rfl (by kernel_rfl) (by kernel_rfl) (Try.call42 _ _) (awake18 w186) (by rintro e x ⟨rfl, h⟩; exact ⟨_, rfl, rfl, h⟩)) ?_ ?_; clear h196
           ·
            rintro _ w199 ⟨rfl, hb200⟩
            have hz201 := hb200.size
            have hB202 := hb_call hB191 hb200
            have hX203 := hX192.below hb200
            have hX204 := hX193.below hb200
            exact ⟨hB202, hX203, hX204⟩
           rintro _ w199 a198 ⟨rfl, hb200⟩ h198
           have hz201 := hb200.size
           have hB202 := hb_call hB191 hb200
           have hX203 := hX192.below hb200
           have hX204 := hX193.below hb200
           refine dk0 25 (v := .bool true) h198 rfl rfl ⟨hB202, hX203, hX204⟩ fun a205 h205 => ?_; clear h198
           refine dk0 26 (v := .bool true) h205 rfl rfl ⟨hB202, hX203, hX204⟩ fun a206 h206 => ?_; clear h205
           refine dr_done (by kernel_rfl) ?_
           refine co_then ?_
           refine wp_ret ?_
           refine co_ret1 h206 rfl rfl ?_
           exact ⟨rfl, hB202⟩
          ·
           rw [hc126] at h125
           have hp207 : ((i : Nat) : Int) < ((NS101.length : Nat) : Int) := of_decide_eq_true hc126
           clear hc126
           refine co_true h125 rfl ?_
           refine wp_skip ?_
           refine co_then ?_
           refine co_seq ?_
           refine wp_block ?_
           refine co_seq ?_
           refine co_reg ?_
           refine pk0 (v := u100) h125 rfl fun a208 h208 => ?_; clear h125
           refine pk0 (v := .int .i64 ((i : Nat) : Int)) h208 rfl fun a209 h209 => ?_; clear h208
           obtain ⟨y210, hy210⟩ : ∃ z, NS101[i]? = some z := ⟨_, List.getElem?_eq_getElem (by first | omega | (simp; done) | (simp; omega))⟩
           have hnk := agd_n hge.1 hq103 (List.mem_of_getElem? hy210) (hf119.2 _ (List.mem_of_getElem? hy210)).2
           refine pk (v := pt (blkOf u100) (offOf u100 + i * 18)) h209 rfl (rn_index rfl rfl rfl Try.underlying72 Try.sizeOf93 (hf119.1) (by omega) (by first | omega | (simp; done) | (simp; omega))) fun a211 h211 => ?_; clear h209
           refine pk0 (v := pt (blkOf u100) (offOf u100 + i * 18 + 1)) h211 rfl fun a212 h212 => ?_; clear h211
           refine pk (v := .int .i64 y210.n) h212 rfl (rn_load1 rfl rfl Try.isAgg3 ((sl_at (hf119.1) hy210) 1 _ rfl)) fun a213 h213 => ?_; clear h212
           refine pk0 (v := .int .i64 ((k : Nat) : Int)) h213 rfl fun a214 h214 => ?_; clear h213
           refine pk0 (v := .bool (decide (y210.n < ((k : Nat) : Int)))) h214 rfl fun a215 h215 => ?_; clear h214
           refine pl_nil ?_
           refine co_then ?_
           have hc216 : (decide (y210.n < ((k : Nat) : Int))) = false := decide_eq_false (by omega)
           rw [hc216] at h215; clear hc216
           refine co_false h215 rfl ?_
           refine wp_skip ?_
           refine co_blockN ?_
           refine co_then ?_
           refine co_reg ?_
           refine pk0 (v := .int .i64 ((i : Nat) : Int)) h215 rfl fun a217 h217 => ?_; clear h215
           refine pk (v := .int .i64 ((i + 1 : Nat) : Int)) h217 rfl (rn_arith' rfl rfl rfl rfl rfl rfl (IntWalk.i64_in _ (by omega)) (by omega)) fun a218 h218 => ?_; clear h217
           refine pk0 (v := .int .i64 ((i + 1 : Nat) : Int)) h218 rfl fun a219 h219 => ?_; clear h218
           refine pl_nil ?_
           refine co_then ?_
           refine ⟨(NS101.length - (i + 1)), by omega, ?_⟩
           have hsx9 := hf119
           exact ⟨i + 1, h219.sub ⟨rfl, rfl, rfl, rfl, rfl, trivial⟩, rfl, by omega, hsx9, hB120⟩
       ·
        rw [hc65] at h64
        have hp220 : ((k : Nat) : Int) < ((l.length : Nat) : Int) := of_decide_eq_true hc65
        clear hc65
        refine dk0 5 (v := .int .i64 ((k : Nat) : Int)) h64 rfl rfl hB59 fun a221 h221 => ?_; clear h64
        refine dk0 6 (v := v2) h221 rfl rfl hB59 fun a222 h222 => ?_; clear h221
        refine dk 7 (v := .int .i64 ((l2.length : Nat) : Int)) h222 rfl rfl hB59 (fun x hx => (rn_len rfl rfl Try.underlying39 (hs2.below hx))) fun a223 h223 => ?_; clear h222
        refine dk0 8 (v := .bool (decide (((k : Nat) : Int) < ((l2.length : Nat) : Int)))) h223 rfl rfl hB59 fun a224 h224 => ?_; clear h223
        refine dk0 9 (v := .bool (decide (((k : Nat) : Int) < ((l2.length : Nat) : Int)))) h224 rfl rfl hB59 fun a225 h225 => ?_; clear h224
        refine dk0 10 (v := .bool (decide (((k : Nat) : Int) < ((l2.length : Nat) : Int)))) h225 rfl rfl hB59 fun a226 h226 => ?_; clear h225
        cases hc227 : (decide (((k : Nat) : Int) < ((l2.length : Nat) : Int)))
        ·
         rw [hc227] at h226
         have hp228 : ¬ (((k : Nat) : Int) < ((l2.length : Nat) : Int)) := of_decide_eq_false hc227
         clear hc227
         refine dsk 11 h226 rfl rfl hB59 fun a229 h229 => ?_; clear h226
         refine dsk 12 h229 rfl rfl hB59 fun a230 h230 => ?_; clear h229
         refine dsk 13 h230 rfl rfl hB59 fun a231 h231 => ?_; clear h230
         refine dsk 14 h231 rfl rfl hB59 fun a232 h232 => ?_; clear h231
         refine dsk 15 h232 rfl rfl hB59 fun a233 h233 => ?_; clear h232
         refine dsk 16 h233 rfl rfl hB59 fun a234 h234 => ?_; clear h233
         refine dsk 17 h234 rfl rfl hB59 fun a235 h235 => ?_; clear h234
         refine dsk 18 h235 rfl rfl hB59 fun a236 h236 => ?_; clear h235
         refine dsk 19 h236 rfl rfl hB59 fun a237 h237 => ?_; clear h236
         refine dk0 20 (v := .bool false) h237 rfl rfl hB59 fun a238 h238 => ?_; clear h237
         refine dk0 21 (v := .bool false) h238 rfl rfl hB59 fun a239 h239 => ?_; clear h238
         refine dsk 22 h239 rfl rfl hB59 fun a240 h240 => ?_; clear h239
         refine dsk 23 h240 rfl rfl hB59 fun a241 h241 => ?_; clear h240
         refine dsk 24 h241 rfl rfl hB59 fun a242 h242 => ?_; clear h241
         refine dsk 25 h242 rfl rfl hB59 fun a243 h243 => ?_; clear h242
         refine dsk 26 h243 rfl rfl hB59 fun a244 h244 => ?_; clear h243
         refine dsk 27 h244 rfl rfl hB59 fun a245 h245 => ?_; clear h244
         refine dsk 28 h245 rfl rfl hB59 fun a246 h246 => ?_; clear h245
         refine dsk 29 h246 rfl rfl hB59 fun a247 h247 => ?_; clear h246
         refine dsk 30 h247 rfl rfl hB59 fun a248 h248 => ?_; clear h247
         refine dsk 31 h248 rfl rfl hB59 fun a249 h249 => ?_; clear h248
         refine dsk 32 h249 rfl rfl hB59 fun a250 h250 => ?_; clear h249
         refine dk0 33 (v := .bool false) h250 rfl rfl hB59 fun a251 h251 => ?_; clear h250
         refine dr_done (by kernel_rfl) ?_
         refine co_then ?_
         refine co_false h251 rfl ?_
         refine wp_exit ?_
         refine co_thenX ?_
         refine co_thenX ?_
         refine co_blockX ?_
         refine co_then ?_
         refine co_seq ?_
         refine co_reg ?_
         refine pk0 (v := v) h251 rfl fun a252 h252 => ?_; clear h251
         refine pk0 (v := v2) h252 rfl fun a253 h253 => ?_; clear h252
         refine pw h253 rfl (op_call (args := #[v, .int .i64 0, .int .i64 0, v2]) (R := fun res xw => ∃ (u : Value) (NS : List NtT), res = .tuple #[u, .int .i64 (((tkF (l.map e0) 0 0 l2).2.1 : Nat) : Int)] ∧ NtX xw u NS ∧ NS.map ntP = (tkF (l.map e0) 0 0 l2).1 ∧ Below w54.heap.size w54 xw) rfl rfl rfl (by kernel_rfl) (by kernel_rfl) (Try.call43 _ _) (takeX 0 0 w54 ((SlX.of hs hok hRI).below hB59) ((SlX.of hs2 hok2 hRO).below hB59) hRI (by omega) (by omega) (by omega)) (by rintro e x ⟨u, NS, h0, h⟩; rw [show (tkF (l.map e0) 0 0 l2).2.1 = (tkF (l.map e0) 0 0 l2).2.1 from rfl] at h0; exact ⟨_, h0, u, NS, rfl, h⟩)) ?_; clear h253
         rintro _ w255 a254 ⟨u256, NS257, rfl, hN258, hq259, hb260⟩ h254
         have hz261 := hb260.size
         have hl262 := sl_len hN258.1
         have hge := agd1 hPre (by omega) (by omega)
         refine pk0 (v := .tuple #[u256, .int .i64 (((tkF (l.map e0) 0 0 l2).2.1 : Nat) : Int)]) h254 rfl fun a263 h263 => ?_; clear h254
         refine pk0 (v := u256) h263 rfl fun a264 h264 => ?_; clear h263
         refine pk0 (v := .int .i64 (((tkF (l.map e0) 0 0 l2).2.1 : Nat) : Int)) h264 rfl fun a265 h265 => ?_; clear h264
         refine pk0 (v := u256) h265 rfl fun a266 h266 => ?_; clear h265
         refine pk0 (v := .int .i64 (((tkF (l.map e0) 0 0 l2).2.1 : Nat) : Int)) h266 rfl fun a267 h267 => ?_; clear h266
         refine pl_nil ?_
         refine co_then ?_
         refine co_seq ?_
         refine co_seq ?_
         refine co_reg ?_
         refine pk0 (v := .int .i64 0) h267 rfl fun a268 h268 => ?_; clear h267
         refine pl_nil ?_
         refine co_then ?_
         refine wp_block ?_
         have hsx9 := hN258
         have h269 : Slots 117 [(0, v), (1, v2), (5, .int .i64 ((k : Nat) : Int)), (6, u256), (8, .int .i64 0)] _ := h268.sub ⟨rfl, rfl, rfl, rfl, rfl, trivial⟩; clear h268
         refine co_loop (fun mm a x => ∃ (i : Nat), Slots 117 [(0, v), (1, v2), (5, .int .i64 ((k : Nat) : Int)), (6, u256), (8, .int .i64 ((i : Nat) : Int))] a ∧ mm = NS257.length - i ∧ (i ≤ NS257.length) ∧ NtX x u256 NS257 ∧ Below w.heap.size w x) (NS257.length - 0) ?_ ?_
         have hB270 := hb_call hB59 hb260
         · exact ⟨0, h269.sub ⟨rfl, rfl, rfl, rfl, (slot_eq rfl (congrArg (Value.int .i64) (by first | rfl | omega))), trivial⟩, rfl, by omega, hsx9, hB270⟩
         · rintro k271 a272 w273 ⟨i, h272, rfl, hi274, hf275, hB276⟩
           have hz277 := hB276.size
           refine co_seq ?_
           refine co_seq ?_
           refine co_reg ?_
           refine pk0 (v := .int .i64 ((i : Nat) : Int)) h272 rfl fun a278 h278 => ?_; clear h272
           refine pk0 (v := u256) h278 rfl fun a279 h279 => ?_; clear h278
           refine pk (v := .int .i64 ((NS257.length : Nat) : Int)) h279 rfl (rn_len rfl rfl Try.underlying72 (hf275.1)) fun a280 h280 => ?_; clear h279
           refine pk0 (v := .bool (decide (((i : Nat) : Int) < ((NS257.length : Nat) : Int)))) h280 rfl fun a281 h281 => ?_; clear h280
           refine pl_nil ?_
           refine co_then ?_
           cases hc282 : (decide (((i : Nat) : Int) < ((NS257.length : Nat) : Int)))
           ·
            rw [hc282] at h281
            have hp283 : ¬ (((i : Nat) : Int) < ((NS257.length : Nat) : Int)) := of_decide_eq_false hc282
            clear hc282
            refine co_false h281 rfl ?_
            refine wp_exit ?_
            refine co_thenX ?_
            refine co_thenX ?_
            refine co_blockX ?_
            refine co_then ?_
            refine co_seq ?_
            refine co_reg ?_
            refine pk0 (v := v) h281 rfl fun a284 h284 => ?_; clear h281
            refine pk0 (v := u256) h284 rfl fun a285 h285 => ?_; clear h284
            refine pw h285 rfl (op_call (args := #[v, u256]) (R := fun res xw => ∃ (u : Value) (X9 : List EntT), res = .tuple #[u, .bool true] ∧ SlX xw u X9 ∧ X9.map e0 = (tkF (l.map e0) 0 0 l2).2.2 ∧ X9.length ≤ 100 ∧ Below w273.heap.size w273 xw) rfl rfl rfl (by kernel_rfl) (by kernel_rfl) (Try.call50 _ _) (laid18_any v l u256 NS257 (tkF (l.map e0) 0 0 l2).2.2 w273 ((SlX.of hs hok hRI).below hB276) hf275.1 hf275.2 (by omega) (by rw [hq259]; exact rp_tk _ _ _ _)) (by rintro e x ⟨u, X, rfl, h⟩; exact ⟨_, rfl, u, X, rfl, h⟩)) ?_; clear h285
            rintro _ w287 a286 ⟨u288, X289, rfl, hX290, hK291, hx292, hb293⟩ h286
            have hz294 := hb293.size
            have hax := agd_x hge.2.1 hge.2.2 hK291
            have hkX := hax.2
            refine pk0 (v := .tuple #[u288, .bool true]) h286 rfl fun a295 h295 => ?_; clear h286
            refine pk0 (v := u288) h295 rfl fun a296 h296 => ?_; clear h295
            refine pk0 (v := .bool true) h296 rfl fun a297 h297 => ?_; clear h296
            refine pk0 (v := u288) h297 rfl fun a298 h298 => ?_; clear h297
            refine pk0 (v := .bool true) h298 rfl fun a299 h299 => ?_; clear h298
            refine pl_nil ?_
            refine co_then ?_
            refine co_seq ?_
            refine dr_gen (fun x => Below w.heap.size w x ∧ NtX x u256 NS257 ∧ SlX x u288 X289) (by kernel_rfl) (fun w300 hg301 => ?_) (fun w300 hg301 => ?_)
            ·
             have hz302 := hg301.size
             have hB303 := hb_call hB276 hb293
             have hB304 := hb_new hB303 hg301
             have hX305 := hf275.below hb293
             have hX306 := hX305.new hg301
             have hX307 := hX290.new hg301
             exact ⟨hB304, hX306, hX307⟩
            have hz308 := hg301.size
            have hB309 := hb_call hB276 hb293
            have hB310 := hb_new hB309 hg301
            have hX311 := hf275.below hb293
            have hX312 := hX311.new hg301
            have hX313 := hX290.new hg301
            refine dk0 0 (v := .bool true) h299 rfl rfl ⟨hB310, hX312, hX313⟩ fun a314 h314 => ?_; clear h299
            refine dk0 1 (v := .bool true) h314 rfl rfl ⟨hB310, hX312, hX313⟩ fun a315 h315 => ?_; clear h314
            refine dk0 2 (v := u288) h315 rfl rfl ⟨hB310, hX312, hX313⟩ fun a316 h316 => ?_; clear h315
            refine dk 3 (v := .int .i64 ((X289.length : Nat) : Int)) h316 rfl rfl ⟨hB310, hX312, hX313⟩ (fun x hx => (rn_len rfl rfl Try.underlying39 (hx.2.2.1))) fun a317 h317 => ?_; clear h316
            refine dk0 4 (v := .int .i64 ((k : Nat) : Int)) h317 rfl rfl ⟨hB310, hX312, hX313⟩ fun a318 h318 => ?_; clear h317
            refine dk0 5 (v := .bool (decide (((X289.length : Nat) : Int) ≥ ((k : Nat) : Int)))) h318 rfl rfl ⟨hB310, hX312, hX313⟩ fun a319 h319 => ?_; clear h318
            refine dk0 6 (v := .bool (decide (((X289.length : Nat) : Int) ≥ ((k : Nat) : Int)))) h319 rfl rfl ⟨hB310, hX312, hX313⟩ fun a320 h320 => ?_; clear h319
            refine dk0 7 (v := .bool (decide (((X289.length : Nat) : Int) ≥ ((k : Nat) : Int)))) h320 rfl rfl ⟨hB310, hX312, hX313⟩ fun a321 h321 => ?_; clear h320
            have hc322 : (decide (((X289.length : Nat) : Int) ≥ ((k : Nat) : Int))) = true := decide_eq_true (by omega)
            rw [hc322] at h321; clear hc322
            refine dk0 8 (v := u288) h321 rfl rfl ⟨hB310, hX312, hX313⟩ fun a323 h323 => ?_; clear h321
            refine dk0 9 (v := .int .i64 ((k : Nat) : Int)) h323 rfl rfl ⟨hB310, hX312, hX313⟩ fun a324 h324 => ?_; clear h323
            refine dk 10 (v := subV u288 0 k 4) h324 rfl rfl ⟨hB310, hX312, hX313⟩ (fun x hx => (rn_sliceTo rfl rfl rfl Try.underlying39 Try.sizeOf47 (hx.2.2.1) (by omega) (by omega))) fun a325 h325 => ?_; clear h324
            refine dk0 11 (v := v) h325 rfl rfl ⟨hB310, hX312, hX313⟩ fun a326 h326 => ?_; clear h325
            refine dk0 12 (v := .int .i64 ((k : Nat) : Int)) h326 rfl rfl ⟨hB310, hX312, hX313⟩ fun a327 h327 => ?_; clear h326
            refine dk 13 (v := subV v 0 k 4) h327 rfl rfl ⟨hB310, hX312, hX313⟩ (fun x hx => (rn_sliceTo rfl rfl rfl Try.underlying39 Try.sizeOf47 (hs.below hx.1) (by omega) (by omega))) fun a328 h328 => ?_; clear h327
            refine d1 14 h328 rfl rfl (op_call (args := #[subV u288 0 k 4, subV v 0 k 4]) (R := fun res xw => res = .bool true ∧ Below w300.heap.size w300 xw) rfl rfl rfl (by kernel_rfl) (by kernel_rfl) (Try.call23 _ _) (sameAllE_any (subV u288 0 k 4) (X289.take k) (subV v 0 k 4) (l.take k) w300 (SlX.sub hX313 (sl_take (hX313.1) _ (by omega)) (fun z hz => by first | exact List.mem_of_mem_take (List.mem_of_mem_drop hz) | exact List.mem_of_mem_drop hz | exact List.mem_of_mem_take hz)).1 (SlX.sub hX313 (sl_take (hX313.1) _ (by omega)) (fun z hz => by first | exact List.mem_of_mem_take (List.mem_of_mem_drop hz) | exact List.mem_of_mem_drop hz | exact List.mem_of_mem_take hz)).ok (SlX.sub ((SlX.of hs hok hRI).below hB310) (sl_take (hs.below hB310) _ (by omega)) (fun z hz => by first | exact List.mem_of_mem_take (List.mem_of_mem_drop hz) | exact List.mem_of_mem_drop hz | exact List.mem_of_mem_take hz)).1 (SlX.sub ((SlX.of hs hok hRI).below hB310) (sl_take (hs.below hB310) _ (by omega)) (fun z hz => by first | exact List.mem_of_mem_take (List.mem_of_mem_drop hz) | exact List.mem_of_mem_drop hz | exact List.mem_of_mem_take hz)).ok hax.1) (by rintro e x ⟨rfl, h⟩; exact ⟨_, rfl, rfl, h⟩)) ?_ ?_; clear h328
            ·
             rintro _ w330 ⟨rfl, hb331⟩
             have hz332 := hb331.size
             have hB333 := hb_call hB310 hb331
             have hX334 := hX312.below hb331
             have hX335 := hX313.below hb331
             exact ⟨hB333, hX334, hX335⟩
            rintro _ w330 a329 ⟨rfl, hb331⟩ h329
            have hz332 := hb331.size
            have hB333 := hb_call hB310 hb331
            have hX334 := hX312.below hb331
            have hX335 := hX313.below hb331
            refine dk0 15 (v := .bool true) h329 rfl rfl ⟨hB333, hX334, hX335⟩ fun a336 h336 => ?_; clear h329
            refine dk0 16 (v := .bool true) h336 rfl rfl ⟨hB333, hX334, hX335⟩ fun a337 h337 => ?_; clear h336
            refine dk0 17 (v := v) h337 rfl rfl ⟨hB333, hX334, hX335⟩ fun a338 h338 => ?_; clear h337
            refine dk0 18 (v := v2) h338 rfl rfl ⟨hB333, hX334, hX335⟩ fun a339 h339 => ?_; clear h338
            refine dk0 20 (v := .int .i64 ((k : Nat) : Int)) h339 rfl rfl ⟨hB333, hX334, hX335⟩ fun a340 h340 => ?_; clear h339
            refine d1 19 h340 rfl rfl (op_call (args := #[v, v2]) (R := fun res xw => ∃ n : Nat, res = .int .i64 ((n : Nat) : Int) ∧ BaseP l l2 n ∧ Below w330.heap.size w330 xw) rfl rfl rfl (by kernel_rfl) (by kernel_rfl) (Try.call48 _ _) (adoptBase_any v l v2 l2 w330 ((SlX.of hs hok hRI).below hB333).1 ((SlX.of hs2 hok2 hRO).below hB333).1) (by rintro e x ⟨n, rfl, h⟩; exact ⟨_, rfl, n, rfl, h⟩)) ?_ ?_; clear h340
            ·
             rintro _ w342 ⟨n343, rfl, hp344, hb345⟩
             have hz346 := hb345.size
             have hbk := base_ge hp344 hPre (by omega) (by omega)
             have hB347 := hb_call hB333 hb345
             have hX348 := hX334.below hb345
             have hX349 := hX335.below hb345
             exact ⟨hB347, hX348, hX349⟩
            rintro _ w342 a341 ⟨n343, rfl, hp344, hb345⟩ h341
            have hz346 := hb345.size
            have hbk := base_ge hp344 hPre (by omega) (by omega)
            have hB347 := hb_call hB333 hb345
            have hX348 := hX334.below hb345
            have hX349 := hX335.below hb345
            refine dk0 21 (v := .bool (decide (((n343 : Nat) : Int) ≥ ((k : Nat) : Int)))) h341 rfl rfl ⟨hB347, hX348, hX349⟩ fun a350 h350 => ?_; clear h341
            refine dk0 22 (v := .bool (decide (((n343 : Nat) : Int) ≥ ((k : Nat) : Int)))) h350 rfl rfl ⟨hB347, hX348, hX349⟩ fun a351 h351 => ?_; clear h350
            refine dk0 23 (v := .bool (decide (((n343 : Nat) : Int) ≥ ((k : Nat) : Int)))) h351 rfl rfl ⟨hB347, hX348, hX349⟩ fun a352 h352 => ?_; clear h351
            have hc353 : (decide (((n343 : Nat) : Int) ≥ ((k : Nat) : Int))) = true := decide_eq_true (by omega)
            rw [hc353] at h352; clear hc353
            refine d1 24 h352 rfl rfl (op_call (args := #[]) (R := fun res xw => res = .bool true ∧ Below w342.heap.size w342 xw) rfl rfl rfl (by kernel_rfl) (by kernel_rfl) (Try.call42 _ _) (awake18 w342) (by rintro e x ⟨rfl, h⟩; exact ⟨_, rfl, rfl, h⟩)) ?_ ?_; clear h352
            ·
             rintro _ w355 ⟨rfl, hb356⟩
             have hz357 := hb356.size
             have hB358 := hb_call hB347 hb356
             have hX359 := hX348.below hb356
             have hX360 := hX349.below hb356
             exact ⟨hB358, hX359, hX360⟩
            rintro _ w355 a354 ⟨rfl, hb356⟩ h354
            have hz357 := hb356.size
            have hB358 := hb_call hB347 hb356
            have hX359 := hX348.below hb356
            have hX360 := hX349.below hb356
            refine dk0 25 (v := .bool true) h354 rfl rfl ⟨hB358, hX359, hX360⟩ fun a361 h361 => ?_; clear h354
            refine dk0 26 (v := .bool true) h361 rfl rfl ⟨hB358, hX359, hX360⟩ fun a362 h362 => ?_; clear h361
            refine dr_done (by kernel_rfl) ?_
            refine co_then ?_
            refine wp_ret ?_
            refine co_ret1 h362 rfl rfl ?_
            exact ⟨rfl, hB358⟩
           ·
            rw [hc282] at h281
            have hp363 : ((i : Nat) : Int) < ((NS257.length : Nat) : Int) := of_decide_eq_true hc282
            clear hc282
            refine co_true h281 rfl ?_
            refine wp_skip ?_
            refine co_then ?_
            refine co_seq ?_
            refine wp_block ?_
            refine co_seq ?_
            refine co_reg ?_
            refine pk0 (v := u256) h281 rfl fun a364 h364 => ?_; clear h281
            refine pk0 (v := .int .i64 ((i : Nat) : Int)) h364 rfl fun a365 h365 => ?_; clear h364
            obtain ⟨y366, hy366⟩ : ∃ z, NS257[i]? = some z := ⟨_, List.getElem?_eq_getElem (by first | omega | (simp; done) | (simp; omega))⟩
            have hnk := agd_n hge.1 hq259 (List.mem_of_getElem? hy366) (hf275.2 _ (List.mem_of_getElem? hy366)).2
            refine pk (v := pt (blkOf u256) (offOf u256 + i * 18)) h365 rfl (rn_index rfl rfl rfl Try.underlying72 Try.sizeOf93 (hf275.1) (by omega) (by first | omega | (simp; done) | (simp; omega))) fun a367 h367 => ?_; clear h365
            refine pk0 (v := pt (blkOf u256) (offOf u256 + i * 18 + 1)) h367 rfl fun a368 h368 => ?_; clear h367
            refine pk (v := .int .i64 y366.n) h368 rfl (rn_load1 rfl rfl Try.isAgg3 ((sl_at (hf275.1) hy366) 1 _ rfl)) fun a369 h369 => ?_; clear h368
            refine pk0 (v := .int .i64 ((k : Nat) : Int)) h369 rfl fun a370 h370 => ?_; clear h369
            refine pk0 (v := .bool (decide (y366.n < ((k : Nat) : Int)))) h370 rfl fun a371 h371 => ?_; clear h370
            refine pl_nil ?_
            refine co_then ?_
            have hc372 : (decide (y366.n < ((k : Nat) : Int))) = false := decide_eq_false (by omega)
            rw [hc372] at h371; clear hc372
            refine co_false h371 rfl ?_
            refine wp_skip ?_
            refine co_blockN ?_
            refine co_then ?_
            refine co_reg ?_
            refine pk0 (v := .int .i64 ((i : Nat) : Int)) h371 rfl fun a373 h373 => ?_; clear h371
            refine pk (v := .int .i64 ((i + 1 : Nat) : Int)) h373 rfl (rn_arith' rfl rfl rfl rfl rfl rfl (IntWalk.i64_in _ (by omega)) (by omega)) fun a374 h374 => ?_; clear h373
            refine pk0 (v := .int .i64 ((i + 1 : Nat) : Int)) h374 rfl fun a375 h375 => ?_; clear h374
            refine pl_nil ?_
            refine co_then ?_
            refine ⟨(NS257.length - (i + 1)), by omega, ?_⟩
            have hsx9 := hf275
            exact ⟨i + 1, h375.sub ⟨rfl, rfl, rfl, rfl, rfl, trivial⟩, rfl, by omega, hsx9, hB276⟩
        ·
         rw [hc227] at h226
         have hp376 : ((k : Nat) : Int) < ((l2.length : Nat) : Int) := of_decide_eq_true hc227
         clear hc227
         refine dk0 11 (v := v) h226 rfl rfl hB59 fun a377 h377 => ?_; clear h226
         refine dk0 12 (v := .int .i64 ((k : Nat) : Int)) h377 rfl rfl hB59 fun a378 h378 => ?_; clear h377
         obtain ⟨y379, hy379⟩ : ∃ z, l[k]? = some z := ⟨_, List.getElem?_eq_getElem (by first | omega | (simp; done) | (simp; omega))⟩
         have oky379 := hok _ (List.mem_of_getElem? hy379)
         refine dk 13 (v := pt (blkOf v) (offOf v + k * 4)) h378 rfl rfl hB59 (fun x hx => (rn_index rfl rfl rfl Try.underlying39 Try.sizeOf47 (hs.below hx) (by omega) (by first | omega | (simp; done) | (simp; omega)))) fun a380 h380 => ?_; clear h378
         refine dk 14 (v := .agg #[.int .i64 y379.client, .int .i64 y379.req, y379.ops, .int .u64 y379.ts]) h380 rfl rfl hB59 (fun x hx => (rn_loadN rfl rfl Try.underlying47 rfl (by kernel_rfl) (sl_at (hs.below hx) hy379))) fun a381 h381 => ?_; clear h380
         refine dk0 15 (v := v2) h381 rfl rfl hB59 fun a382 h382 => ?_; clear h381
         refine dk0 16 (v := .int .i64 ((k : Nat) : Int)) h382 rfl rfl hB59 fun a383 h383 => ?_; clear h382
         obtain ⟨y384, hy384⟩ : ∃ z, l2[k]? = some z := ⟨_, List.getElem?_eq_getElem (by first | omega | (simp; done) | (simp; omega))⟩
         have oky384 := hok2 _ (List.mem_of_getElem? hy384)
         refine dk 17 (v := pt (blkOf v2) (offOf v2 + k * 4)) h383 rfl rfl hB59 (fun x hx => (rn_index rfl rfl rfl Try.underlying39 Try.sizeOf47 (hs2.below hx) (by omega) (by first | omega | (simp; done) | (simp; omega)))) fun a385 h385 => ?_; clear h383
         refine dk 18 (v := .agg #[.int .i64 y384.client, .int .i64 y384.req, y384.ops, .int .u64 y384.ts]) h385 rfl rfl hB59 (fun x hx => (rn_loadN rfl rfl Try.underlying47 rfl (by kernel_rfl) (sl_at (hs2.below hx) hy384))) fun a386 h386 => ?_; clear h385
         refine d1 19 h386 rfl rfl (op_call (args := #[.agg #[.int .i64 y379.client, .int .i64 y379.req, y379.ops, .int .u64 y379.ts], .agg #[.int .i64 y384.client, .int .i64 y384.req, y384.ops, .int .u64 y384.ts]]) (R := fun res xw => res = .bool ((y379.client == (y384.client : Int)) && (y379.req == (y384.req : Int))) ∧ Below w54.heap.size w54 xw) rfl rfl rfl (by kernel_rfl) (by kernel_rfl) (Try.call36 _ _) (ritemTwins_any y379.client y379.req (y379.ops) y379.ts y384.client y384.req (y384.ops) y384.ts w54) (by rintro e x ⟨rfl, h⟩; exact ⟨_, rfl, rfl, h⟩)) ?_ ?_; clear h386
         ·
          rintro _ w388 ⟨rfl, hb389⟩
          have hz390 := hb389.size
          have hB391 := hb_call hB59 hb389
          exact hB391
         rintro _ w388 a387 ⟨rfl, hb389⟩ h387
         have hz390 := hb389.size
         have hB391 := hb_call hB59 hb389
         refine dk0 20 (v := .bool ((y379.client == (y384.client : Int)) && (y379.req == (y384.req : Int)))) h387 rfl rfl hB391 fun a392 h392 => ?_; clear h387
         refine dk0 21 (v := .bool ((y379.client == (y384.client : Int)) && (y379.req == (y384.req : Int)))) h392 rfl rfl hB391 fun a393 h393 => ?_; clear h392
         cases hc394 : (((y379.client == (y384.client : Int)) && (y379.req == (y384.req : Int))))
         ·
          rw [hc394] at h393
          have hp395 : ¬ (y379.client = y384.client ∧ y379.req = y384.req) := by first | simpa using hc394 | simpa [and_assoc] using hc394
          clear hc394
          refine dsk 22 h393 rfl rfl hB391 fun a396 h396 => ?_; clear h393
          refine dsk 23 h396 rfl rfl hB391 fun a397 h397 => ?_; clear h396
          refine dsk 24 h397 rfl rfl hB391 fun a398 h398 => ?_; clear h397
          refine dsk 25 h398 rfl rfl hB391 fun a399 h399 => ?_; clear h398
          refine dsk 26 h399 rfl rfl hB391 fun a400 h400 => ?_; clear h399
          refine dsk 27 h400 rfl rfl hB391 fun a401 h401 => ?_; clear h400
          refine dsk 28 h401 rfl rfl hB391 fun a402 h402 => ?_; clear h401
          refine dsk 29 h402 rfl rfl hB391 fun a403 h403 => ?_; clear h402
          refine dsk 30 h403 rfl rfl hB391 fun a404 h404 => ?_; clear h403
          refine dsk 31 h404 rfl rfl hB391 fun a405 h405 => ?_; clear h404
          refine dsk 32 h405 rfl rfl hB391 fun a406 h406 => ?_; clear h405
          refine dk0 33 (v := .bool false) h406 rfl rfl hB391 fun a407 h407 => ?_; clear h406
          refine dr_done (by kernel_rfl) ?_
          refine co_then ?_
          refine co_false h407 rfl ?_
          refine wp_exit ?_
          refine co_thenX ?_
          refine co_thenX ?_
          refine co_blockX ?_
          refine co_then ?_
          refine co_seq ?_
          refine co_reg ?_
          refine pk0 (v := v) h407 rfl fun a408 h408 => ?_; clear h407
          refine pk0 (v := v2) h408 rfl fun a409 h409 => ?_; clear h408
          refine pw h409 rfl (op_call (args := #[v, .int .i64 0, .int .i64 0, v2]) (R := fun res xw => ∃ (u : Value) (NS : List NtT), res = .tuple #[u, .int .i64 (((tkF (l.map e0) 0 0 l2).2.1 : Nat) : Int)] ∧ NtX xw u NS ∧ NS.map ntP = (tkF (l.map e0) 0 0 l2).1 ∧ Below w388.heap.size w388 xw) rfl rfl rfl (by kernel_rfl) (by kernel_rfl) (Try.call43 _ _) (takeX 0 0 w388 ((SlX.of hs hok hRI).below hB391) ((SlX.of hs2 hok2 hRO).below hB391) hRI (by omega) (by omega) (by omega)) (by rintro e x ⟨u, NS, h0, h⟩; rw [show (tkF (l.map e0) 0 0 l2).2.1 = (tkF (l.map e0) 0 0 l2).2.1 from rfl] at h0; exact ⟨_, h0, u, NS, rfl, h⟩)) ?_; clear h409
          rintro _ w411 a410 ⟨u412, NS413, rfl, hN414, hq415, hb416⟩ h410
          have hz417 := hb416.size
          have hl418 := sl_len hN414.1
          have hge := agd1 hPre (by omega) (by omega)
          refine pk0 (v := .tuple #[u412, .int .i64 (((tkF (l.map e0) 0 0 l2).2.1 : Nat) : Int)]) h410 rfl fun a419 h419 => ?_; clear h410
          refine pk0 (v := u412) h419 rfl fun a420 h420 => ?_; clear h419
          refine pk0 (v := .int .i64 (((tkF (l.map e0) 0 0 l2).2.1 : Nat) : Int)) h420 rfl fun a421 h421 => ?_; clear h420
          refine pk0 (v := u412) h421 rfl fun a422 h422 => ?_; clear h421
          refine pk0 (v := .int .i64 (((tkF (l.map e0) 0 0 l2).2.1 : Nat) : Int)) h422 rfl fun a423 h423 => ?_; clear h422
          refine pl_nil ?_
          refine co_then ?_
          refine co_seq ?_
          refine co_seq ?_
          refine co_reg ?_
          refine pk0 (v := .int .i64 0) h423 rfl fun a424 h424 => ?_; clear h423
          refine pl_nil ?_
          refine co_then ?_
          refine wp_block ?_
          have hsx9 := hN414
          have h425 : Slots 117 [(0, v), (1, v2), (5, .int .i64 ((k : Nat) : Int)), (6, u412), (8, .int .i64 0)] _ := h424.sub ⟨rfl, rfl, rfl, rfl, rfl, trivial⟩; clear h424
          refine co_loop (fun mm a x => ∃ (i : Nat), Slots 117 [(0, v), (1, v2), (5, .int .i64 ((k : Nat) : Int)), (6, u412), (8, .int .i64 ((i : Nat) : Int))] a ∧ mm = NS413.length - i ∧ (i ≤ NS413.length) ∧ NtX x u412 NS413 ∧ Below w.heap.size w x) (NS413.length - 0) ?_ ?_
          have hB426 := hb_call hB391 hb416
          · exact ⟨0, h425.sub ⟨rfl, rfl, rfl, rfl, (slot_eq rfl (congrArg (Value.int .i64) (by first | rfl | omega))), trivial⟩, rfl, by omega, hsx9, hB426⟩
          · rintro k427 a428 w429 ⟨i, h428, rfl, hi430, hf431, hB432⟩
            have hz433 := hB432.size
            refine co_seq ?_
            refine co_seq ?_
            refine co_reg ?_
            refine pk0 (v := .int .i64 ((i : Nat) : Int)) h428 rfl fun a434 h434 => ?_; clear h428
            refine pk0 (v := u412) h434 rfl fun a435 h435 => ?_; clear h434
            refine pk (v := .int .i64 ((NS413.length : Nat) : Int)) h435 rfl (rn_len rfl rfl Try.underlying72 (hf431.1)) fun a436 h436 => ?_; clear h435
            refine pk0 (v := .bool (decide (((i : Nat) : Int) < ((NS413.length : Nat) : Int)))) h436 rfl fun a437 h437 => ?_; clear h436
            refine pl_nil ?_
            refine co_then ?_
            cases hc438 : (decide (((i : Nat) : Int) < ((NS413.length : Nat) : Int)))
            ·
             rw [hc438] at h437
             have hp439 : ¬ (((i : Nat) : Int) < ((NS413.length : Nat) : Int)) := of_decide_eq_false hc438
             clear hc438
             refine co_false h437 rfl ?_
             refine wp_exit ?_
             refine co_thenX ?_
             refine co_thenX ?_
             refine co_blockX ?_
             refine co_then ?_
             refine co_seq ?_
             refine co_reg ?_
             refine pk0 (v := v) h437 rfl fun a440 h440 => ?_; clear h437
             refine pk0 (v := u412) h440 rfl fun a441 h441 => ?_; clear h440
             refine pw h441 rfl (op_call (args := #[v, u412]) (R := fun res xw => ∃ (u : Value) (X9 : List EntT), res = .tuple #[u, .bool true] ∧ SlX xw u X9 ∧ X9.map e0 = (tkF (l.map e0) 0 0 l2).2.2 ∧ X9.length ≤ 100 ∧ Below w429.heap.size w429 xw) rfl rfl rfl (by kernel_rfl) (by kernel_rfl) (Try.call50 _ _) (laid18_any v l u412 NS413 (tkF (l.map e0) 0 0 l2).2.2 w429 ((SlX.of hs hok hRI).below hB432) hf431.1 hf431.2 (by omega) (by rw [hq415]; exact rp_tk _ _ _ _)) (by rintro e x ⟨u, X, rfl, h⟩; exact ⟨_, rfl, u, X, rfl, h⟩)) ?_; clear h441
             rintro _ w443 a442 ⟨u444, X445, rfl, hX446, hK447, hx448, hb449⟩ h442
             have hz450 := hb449.size
             have hax := agd_x hge.2.1 hge.2.2 hK447
             have hkX := hax.2
             refine pk0 (v := .tuple #[u444, .bool true]) h442 rfl fun a451 h451 => ?_; clear h442
             refine pk0 (v := u444) h451 rfl fun a452 h452 => ?_; clear h451
             refine pk0 (v := .bool true) h452 rfl fun a453 h453 => ?_; clear h452
             refine pk0 (v := u444) h453 rfl fun a454 h454 => ?_; clear h453
             refine pk0 (v := .bool true) h454 rfl fun a455 h455 => ?_; clear h454
             refine pl_nil ?_
             refine co_then ?_
             refine co_seq ?_
             refine dr_gen (fun x => Below w.heap.size w x ∧ NtX x u412 NS413 ∧ SlX x u444 X445) (by kernel_rfl) (fun w456 hg457 => ?_) (fun w456 hg457 => ?_)
             ·
              have hz458 := hg457.size
              have hB459 := hb_call hB432 hb449
              have hB460 := hb_new hB459 hg457
              have hX461 := hf431.below hb449
              have hX462 := hX461.new hg457
              have hX463 := hX446.new hg457
              exact ⟨hB460, hX462, hX463⟩
             have hz464 := hg457.size
             have hB465 := hb_call hB432 hb449
             have hB466 := hb_new hB465 hg457
             have hX467 := hf431.below hb449
             have hX468 := hX467.new hg457
             have hX469 := hX446.new hg457
             refine dk0 0 (v := .bool true) h455 rfl rfl ⟨hB466, hX468, hX469⟩ fun a470 h470 => ?_; clear h455
             refine dk0 1 (v := .bool true) h470 rfl rfl ⟨hB466, hX468, hX469⟩ fun a471 h471 => ?_; clear h470
             refine dk0 2 (v := u444) h471 rfl rfl ⟨hB466, hX468, hX469⟩ fun a472 h472 => ?_; clear h471
             refine dk 3 (v := .int .i64 ((X445.length : Nat) : Int)) h472 rfl rfl ⟨hB466, hX468, hX469⟩ (fun x hx => (rn_len rfl rfl Try.underlying39 (hx.2.2.1))) fun a473 h473 => ?_; clear h472
             refine dk0 4 (v := .int .i64 ((k : Nat) : Int)) h473 rfl rfl ⟨hB466, hX468, hX469⟩ fun a474 h474 => ?_; clear h473
             refine dk0 5 (v := .bool (decide (((X445.length : Nat) : Int) ≥ ((k : Nat) : Int)))) h474 rfl rfl ⟨hB466, hX468, hX469⟩ fun a475 h475 => ?_; clear h474
             refine dk0 6 (v := .bool (decide (((X445.length : Nat) : Int) ≥ ((k : Nat) : Int)))) h475 rfl rfl ⟨hB466, hX468, hX469⟩ fun a476 h476 => ?_; clear h475
             refine dk0 7 (v := .bool (decide (((X445.length : Nat) : Int) ≥ ((k : Nat) : Int)))) h476 rfl rfl ⟨hB466, hX468, hX469⟩ fun a477 h477 => ?_; clear h476
             have hc478 : (decide (((X445.length : Nat) : Int) ≥ ((k : Nat) : Int))) = true := decide_eq_true (by omega)
             rw [hc478] at h477; clear hc478
             refine dk0 8 (v := u444) h477 rfl rfl ⟨hB466, hX468, hX469⟩ fun a479 h479 => ?_; clear h477
             refine dk0 9 (v := .int .i64 ((k : Nat) : Int)) h479 rfl rfl ⟨hB466, hX468, hX469⟩ fun a480 h480 => ?_; clear h479
             refine dk 10 (v := subV u444 0 k 4) h480 rfl rfl ⟨hB466, hX468, hX469⟩ (fun x hx => (rn_sliceTo rfl rfl rfl Try.underlying39 Try.sizeOf47 (hx.2.2.1) (by omega) (by omega))) fun a481 h481 => ?_; clear h480
             refine dk0 11 (v := v) h481 rfl rfl ⟨hB466, hX468, hX469⟩ fun a482 h482 => ?_; clear h481
             refine dk0 12 (v := .int .i64 ((k : Nat) : Int)) h482 rfl rfl ⟨hB466, hX468, hX469⟩ fun a483 h483 => ?_; clear h482
             refine dk 13 (v := subV v 0 k 4) h483 rfl rfl ⟨hB466, hX468, hX469⟩ (fun x hx => (rn_sliceTo rfl rfl rfl Try.underlying39 Try.sizeOf47 (hs.below hx.1) (by omega) (by omega))) fun a484 h484 => ?_; clear h483
             refine d1 14 h484 rfl rfl (op_call (args := #[subV u444 0 k 4, subV v 0 k 4]) (R := fun res xw => res = .bool true ∧ Below w456.heap.size w456 xw) rfl rfl rfl (by kernel_rfl) (by kernel_rfl) (Try.call23 _ _) (sameAllE_any (subV u444 0 k 4) (X445.take k) (subV v 0 k 4) (l.take k) w456 (SlX.sub hX469 (sl_take (hX469.1) _ (by omega)) (fun z hz => by first | exact List.mem_of_mem_take (List.mem_of_mem_drop hz) | exact List.mem_of_mem_drop hz | exact List.mem_of_mem_take hz)).1 (SlX.sub hX469 (sl_take (hX469.1) _ (by omega)) (fun z hz => by first | exact List.mem_of_mem_take (List.mem_of_mem_drop hz) | exact List.mem_of_mem_drop hz | exact List.mem_of_mem_take hz)).ok (SlX.sub ((SlX.of hs hok hRI).below hB466) (sl_take (hs.below hB466) _ (by omega)) (fun z hz => by first | exact List.mem_of_mem_take (List.mem_of_mem_drop hz) | exact List.mem_of_mem_drop hz | exact List.mem_of_mem_take hz)).1 (SlX.sub ((SlX.of hs hok hRI).below hB466) (sl_take (hs.below hB466) _ (by omega)) (fun z hz => by first | exact List.mem_of_mem_take (List.mem_of_mem_drop hz) | exact List.mem_of_mem_drop hz | exact List.mem_of_mem_take hz)).ok hax.1) (by rintro e x ⟨rfl, h⟩; exact ⟨_, rfl, rfl, h⟩)) ?_ ?_; clear h484
             ·
              rintro _ w486 ⟨rfl, hb487⟩
              have hz488 := hb487.size
              have hB489 := hb_call hB466 hb487
              have hX490 := hX468.below hb487
              have hX491 := hX469.below hb487
              exact ⟨hB489, hX490, hX491⟩
             rintro _ w486 a485 ⟨rfl, hb487⟩ h485
             have hz488 := hb487.size
             have hB489 := hb_call hB466 hb487
             have hX490 := hX468.below hb487
             have hX491 := hX469.below hb487
             refine dk0 15 (v := .bool true) h485 rfl rfl ⟨hB489, hX490, hX491⟩ fun a492 h492 => ?_; clear h485
             refine dk0 16 (v := .bool true) h492 rfl rfl ⟨hB489, hX490, hX491⟩ fun a493 h493 => ?_; clear h492
             refine dk0 17 (v := v) h493 rfl rfl ⟨hB489, hX490, hX491⟩ fun a494 h494 => ?_; clear h493
             refine dk0 18 (v := v2) h494 rfl rfl ⟨hB489, hX490, hX491⟩ fun a495 h495 => ?_; clear h494
             refine dk0 20 (v := .int .i64 ((k : Nat) : Int)) h495 rfl rfl ⟨hB489, hX490, hX491⟩ fun a496 h496 => ?_; clear h495
             refine d1 19 h496 rfl rfl (op_call (args := #[v, v2]) (R := fun res xw => ∃ n : Nat, res = .int .i64 ((n : Nat) : Int) ∧ BaseP l l2 n ∧ Below w486.heap.size w486 xw) rfl rfl rfl (by kernel_rfl) (by kernel_rfl) (Try.call48 _ _) (adoptBase_any v l v2 l2 w486 ((SlX.of hs hok hRI).below hB489).1 ((SlX.of hs2 hok2 hRO).below hB489).1) (by rintro e x ⟨n, rfl, h⟩; exact ⟨_, rfl, n, rfl, h⟩)) ?_ ?_; clear h496
             ·
              rintro _ w498 ⟨n499, rfl, hp500, hb501⟩
              have hz502 := hb501.size
              have hbk := base_ge hp500 hPre (by omega) (by omega)
              have hB503 := hb_call hB489 hb501
              have hX504 := hX490.below hb501
              have hX505 := hX491.below hb501
              exact ⟨hB503, hX504, hX505⟩
             rintro _ w498 a497 ⟨n499, rfl, hp500, hb501⟩ h497
             have hz502 := hb501.size
             have hbk := base_ge hp500 hPre (by omega) (by omega)
             have hB503 := hb_call hB489 hb501
             have hX504 := hX490.below hb501
             have hX505 := hX491.below hb501
             refine dk0 21 (v := .bool (decide (((n499 : Nat) : Int) ≥ ((k : Nat) : Int)))) h497 rfl rfl ⟨hB503, hX504, hX505⟩ fun a506 h506 => ?_; clear h497
             refine dk0 22 (v := .bool (decide (((n499 : Nat) : Int) ≥ ((k : Nat) : Int)))) h506 rfl rfl ⟨hB503, hX504, hX505⟩ fun a507 h507 => ?_; clear h506
             refine dk0 23 (v := .bool (decide (((n499 : Nat) : Int) ≥ ((k : Nat) : Int)))) h507 rfl rfl ⟨hB503, hX504, hX505⟩ fun a508 h508 => ?_; clear h507
             have hc509 : (decide (((n499 : Nat) : Int) ≥ ((k : Nat) : Int))) = true := decide_eq_true (by omega)
             rw [hc509] at h508; clear hc509
             refine d1 24 h508 rfl rfl (op_call (args := #[]) (R := fun res xw => res = .bool true ∧ Below w498.heap.size w498 xw) rfl rfl rfl (by kernel_rfl) (by kernel_rfl) (Try.call42 _ _) (awake18 w498) (by rintro e x ⟨rfl, h⟩; exact ⟨_, rfl, rfl, h⟩)) ?_ ?_; clear h508
             ·
              rintro _ w511 ⟨rfl, hb512⟩
              have hz513 := hb512.size
              have hB514 := hb_call hB503 hb512
              have hX515 := hX504.below hb512
              have hX516 := hX505.below hb512
              exact ⟨hB514, hX515, hX516⟩
             rintro _ w511 a510 ⟨rfl, hb512⟩ h510
             have hz513 := hb512.size
             have hB514 := hb_call hB503 hb512
             have hX515 := hX504.below hb512
             have hX516 := hX505.below hb512
             refine dk0 25 (v := .bool true) h510 rfl rfl ⟨hB514, hX515, hX516⟩ fun a517 h517 => ?_; clear h510
             refine dk0 26 (v := .bool true) h517 rfl rfl ⟨hB514, hX515, hX516⟩ fun a518 h518 => ?_; clear h517
             refine dr_done (by kernel_rfl) ?_
             refine co_then ?_
             refine wp_ret ?_
             refine co_ret1 h518 rfl rfl ?_
             exact ⟨rfl, hB514⟩
            ·
             rw [hc438] at h437
             have hp519 : ((i : Nat) : Int) < ((NS413.length : Nat) : Int) := of_decide_eq_true hc438
             clear hc438
             refine co_true h437 rfl ?_
             refine wp_skip ?_
             refine co_then ?_
             refine co_seq ?_
             refine wp_block ?_
             refine co_seq ?_
             refine co_reg ?_
             refine pk0 (v := u412) h437 rfl fun a520 h520 => ?_; clear h437
             refine pk0 (v := .int .i64 ((i : Nat) : Int)) h520 rfl fun a521 h521 => ?_; clear h520
             obtain ⟨y522, hy522⟩ : ∃ z, NS413[i]? = some z := ⟨_, List.getElem?_eq_getElem (by first | omega | (simp; done) | (simp; omega))⟩
             have hnk := agd_n hge.1 hq415 (List.mem_of_getElem? hy522) (hf431.2 _ (List.mem_of_getElem? hy522)).2
             refine pk (v := pt (blkOf u412) (offOf u412 + i * 18)) h521 rfl (rn_index rfl rfl rfl Try.underlying72 Try.sizeOf93 (hf431.1) (by omega) (by first | omega | (simp; done) | (simp; omega))) fun a523 h523 => ?_; clear h521
             refine pk0 (v := pt (blkOf u412) (offOf u412 + i * 18 + 1)) h523 rfl fun a524 h524 => ?_; clear h523
             refine pk (v := .int .i64 y522.n) h524 rfl (rn_load1 rfl rfl Try.isAgg3 ((sl_at (hf431.1) hy522) 1 _ rfl)) fun a525 h525 => ?_; clear h524
             refine pk0 (v := .int .i64 ((k : Nat) : Int)) h525 rfl fun a526 h526 => ?_; clear h525
             refine pk0 (v := .bool (decide (y522.n < ((k : Nat) : Int)))) h526 rfl fun a527 h527 => ?_; clear h526
             refine pl_nil ?_
             refine co_then ?_
             have hc528 : (decide (y522.n < ((k : Nat) : Int))) = false := decide_eq_false (by omega)
             rw [hc528] at h527; clear hc528
             refine co_false h527 rfl ?_
             refine wp_skip ?_
             refine co_blockN ?_
             refine co_then ?_
             refine co_reg ?_
             refine pk0 (v := .int .i64 ((i : Nat) : Int)) h527 rfl fun a529 h529 => ?_; clear h527
             refine pk (v := .int .i64 ((i + 1 : Nat) : Int)) h529 rfl (rn_arith' rfl rfl rfl rfl rfl rfl (IntWalk.i64_in _ (by omega)) (by omega)) fun a530 h530 => ?_; clear h529
             refine pk0 (v := .int .i64 ((i + 1 : Nat) : Int)) h530 rfl fun a531 h531 => ?_; clear h530
             refine pl_nil ?_
             refine co_then ?_
             refine ⟨(NS413.length - (i + 1)), by omega, ?_⟩
             have hsx9 := hf431
             exact ⟨i + 1, h531.sub ⟨rfl, rfl, rfl, rfl, rfl, trivial⟩, rfl, by omega, hsx9, hB432⟩
         ·
          rw [hc394] at h393
          have hp532 : y379.client = y384.client ∧ y379.req = y384.req := by first | simpa using hc394 | simpa [and_assoc] using hc394
          clear hc394
          refine dk0 22 (v := v) h393 rfl rfl hB391 fun a533 h533 => ?_; clear h393
          refine dk0 23 (v := .int .i64 ((k : Nat) : Int)) h533 rfl rfl hB391 fun a534 h534 => ?_; clear h533
          refine dk 24 (v := pt (blkOf v) (offOf v + k * 4)) h534 rfl rfl hB391 (fun x hx => (rn_index rfl rfl rfl Try.underlying39 Try.sizeOf47 (hs.below hx) (by omega) (by first | omega | (simp; done) | (simp; omega)))) fun a535 h535 => ?_; clear h534
          refine dk0 25 (v := pt (blkOf v) (offOf v + k * 4 + 3)) h535 rfl rfl hB391 fun a536 h536 => ?_; clear h535
          refine dk 26 (v := .int .u64 y379.ts) h536 rfl rfl hB391 (fun x hx => (rn_load1 rfl rfl Try.isAgg45 ((sl_at (hs.below hx) hy379) 3 _ rfl))) fun a537 h537 => ?_; clear h536
          refine dk0 27 (v := v2) h537 rfl rfl hB391 fun a538 h538 => ?_; clear h537
          refine dk0 28 (v := .int .i64 ((k : Nat) : Int)) h538 rfl rfl hB391 fun a539 h539 => ?_; clear h538
          refine dk 29 (v := pt (blkOf v2) (offOf v2 + k * 4)) h539 rfl rfl hB391 (fun x hx => (rn_index rfl rfl rfl Try.underlying39 Try.sizeOf47 (hs2.below hx) (by omega) (by first | omega | (simp; done) | (simp; omega)))) fun a540 h540 => ?_; clear h539
          refine dk0 30 (v := pt (blkOf v2) (offOf v2 + k * 4 + 3)) h540 rfl rfl hB391 fun a541 h541 => ?_; clear h540
          refine dk 31 (v := .int .u64 y384.ts) h541 rfl rfl hB391 (fun x hx => (rn_load1 rfl rfl Try.isAgg45 ((sl_at (hs2.below hx) hy384) 3 _ rfl))) fun a542 h542 => ?_; clear h541
          refine dk0 32 (v := .bool (y379.ts == y384.ts)) h542 rfl rfl hB391 fun a543 h543 => ?_; clear h542
          refine dk0 33 (v := .bool (y379.ts == y384.ts)) h543 rfl rfl hB391 fun a544 h544 => ?_; clear h543
          refine dr_done (by kernel_rfl) ?_
          refine co_then ?_
          cases hc545 : (y379.ts == y384.ts)
          ·
           rw [hc545] at h544
           have hp546 : ¬ (y379.ts = y384.ts) := by first | simpa using hc545 | simpa [and_assoc] using hc545
           clear hc545
           refine co_false h544 rfl ?_
           refine wp_exit ?_
           refine co_thenX ?_
           refine co_thenX ?_
           refine co_blockX ?_
           refine co_then ?_
           refine co_seq ?_
           refine co_reg ?_
           refine pk0 (v := v) h544 rfl fun a547 h547 => ?_; clear h544
           refine pk0 (v := v2) h547 rfl fun a548 h548 => ?_; clear h547
           refine pw h548 rfl (op_call (args := #[v, .int .i64 0, .int .i64 0, v2]) (R := fun res xw => ∃ (u : Value) (NS : List NtT), res = .tuple #[u, .int .i64 (((tkF (l.map e0) 0 0 l2).2.1 : Nat) : Int)] ∧ NtX xw u NS ∧ NS.map ntP = (tkF (l.map e0) 0 0 l2).1 ∧ Below w388.heap.size w388 xw) rfl rfl rfl (by kernel_rfl) (by kernel_rfl) (Try.call43 _ _) (takeX 0 0 w388 ((SlX.of hs hok hRI).below hB391) ((SlX.of hs2 hok2 hRO).below hB391) hRI (by omega) (by omega) (by omega)) (by rintro e x ⟨u, NS, h0, h⟩; rw [show (tkF (l.map e0) 0 0 l2).2.1 = (tkF (l.map e0) 0 0 l2).2.1 from rfl] at h0; exact ⟨_, h0, u, NS, rfl, h⟩)) ?_; clear h548
           rintro _ w550 a549 ⟨u551, NS552, rfl, hN553, hq554, hb555⟩ h549
           have hz556 := hb555.size
           have hl557 := sl_len hN553.1
           have hge := agd1 hPre (by omega) (by omega)
           refine pk0 (v := .tuple #[u551, .int .i64 (((tkF (l.map e0) 0 0 l2).2.1 : Nat) : Int)]) h549 rfl fun a558 h558 => ?_; clear h549
           refine pk0 (v := u551) h558 rfl fun a559 h559 => ?_; clear h558
           refine pk0 (v := .int .i64 (((tkF (l.map e0) 0 0 l2).2.1 : Nat) : Int)) h559 rfl fun a560 h560 => ?_; clear h559
           refine pk0 (v := u551) h560 rfl fun a561 h561 => ?_; clear h560
           refine pk0 (v := .int .i64 (((tkF (l.map e0) 0 0 l2).2.1 : Nat) : Int)) h561 rfl fun a562 h562 => ?_; clear h561
           refine pl_nil ?_
           refine co_then ?_
           refine co_seq ?_
           refine co_seq ?_
           refine co_reg ?_
           refine pk0 (v := .int .i64 0) h562 rfl fun a563 h563 => ?_; clear h562
           refine pl_nil ?_
           refine co_then ?_
           refine wp_block ?_
           have hsx9 := hN553
           have h564 : Slots 117 [(0, v), (1, v2), (5, .int .i64 ((k : Nat) : Int)), (6, u551), (8, .int .i64 0)] _ := h563.sub ⟨rfl, rfl, rfl, rfl, rfl, trivial⟩; clear h563
           refine co_loop (fun mm a x => ∃ (i : Nat), Slots 117 [(0, v), (1, v2), (5, .int .i64 ((k : Nat) : Int)), (6, u551), (8, .int .i64 ((i : Nat) : Int))] a ∧ mm = NS552.length - i ∧ (i ≤ NS552.length) ∧ NtX x u551 NS552 ∧ Below w.heap.size w x) (NS552.length - 0) ?_ ?_
           have hB565 := hb_call hB391 hb555
           · exact ⟨0, h564.sub ⟨rfl, rfl, rfl, rfl, (slot_eq rfl (congrArg (Value.int .i64) (by first | rfl | omega))), trivial⟩, rfl, by omega, hsx9, hB565⟩
           · rintro k566 a567 w568 ⟨i, h567, rfl, hi569, hf570, hB571⟩
             have hz572 := hB571.size
             refine co_seq ?_
             refine co_seq ?_
             refine co_reg ?_
             refine pk0 (v := .int .i64 ((i : Nat) : Int)) h567 rfl fun a573 h573 => ?_; clear h567
             refine pk0 (v := u551) h573 rfl fun a574 h574 => ?_; clear h573
             refine pk (v := .int .i64 ((NS552.length : Nat) : Int)) h574 rfl (rn_len rfl rfl Try.underlying72 (hf570.1)) fun a575 h575 => ?_; clear h574
             refine pk0 (v := .bool (decide (((i : Nat) : Int) < ((NS552.length : Nat) : Int)))) h575 rfl fun a576 h576 => ?_; clear h575
             refine pl_nil ?_
             refine co_then ?_
             cases hc577 : (decide (((i : Nat) : Int) < ((NS552.length : Nat) : Int)))
             ·
              rw [hc577] at h576
              have hp578 : ¬ (((i : Nat) : Int) < ((NS552.length : Nat) : Int)) := of_decide_eq_false hc577
              clear hc577
              refine co_false h576 rfl ?_
              refine wp_exit ?_
              refine co_thenX ?_
              refine co_thenX ?_
              refine co_blockX ?_
              refine co_then ?_
              refine co_seq ?_
              refine co_reg ?_
              refine pk0 (v := v) h576 rfl fun a579 h579 => ?_; clear h576
              refine pk0 (v := u551) h579 rfl fun a580 h580 => ?_; clear h579
              refine pw h580 rfl (op_call (args := #[v, u551]) (R := fun res xw => ∃ (u : Value) (X9 : List EntT), res = .tuple #[u, .bool true] ∧ SlX xw u X9 ∧ X9.map e0 = (tkF (l.map e0) 0 0 l2).2.2 ∧ X9.length ≤ 100 ∧ Below w568.heap.size w568 xw) rfl rfl rfl (by kernel_rfl) (by kernel_rfl) (Try.call50 _ _) (laid18_any v l u551 NS552 (tkF (l.map e0) 0 0 l2).2.2 w568 ((SlX.of hs hok hRI).below hB571) hf570.1 hf570.2 (by omega) (by rw [hq554]; exact rp_tk _ _ _ _)) (by rintro e x ⟨u, X, rfl, h⟩; exact ⟨_, rfl, u, X, rfl, h⟩)) ?_; clear h580
              rintro _ w582 a581 ⟨u583, X584, rfl, hX585, hK586, hx587, hb588⟩ h581
              have hz589 := hb588.size
              have hax := agd_x hge.2.1 hge.2.2 hK586
              have hkX := hax.2
              refine pk0 (v := .tuple #[u583, .bool true]) h581 rfl fun a590 h590 => ?_; clear h581
              refine pk0 (v := u583) h590 rfl fun a591 h591 => ?_; clear h590
              refine pk0 (v := .bool true) h591 rfl fun a592 h592 => ?_; clear h591
              refine pk0 (v := u583) h592 rfl fun a593 h593 => ?_; clear h592
              refine pk0 (v := .bool true) h593 rfl fun a594 h594 => ?_; clear h593
              refine pl_nil ?_
              refine co_then ?_
              refine co_seq ?_
              refine dr_gen (fun x => Below w.heap.size w x ∧ NtX x u551 NS552 ∧ SlX x u583 X584) (by kernel_rfl) (fun w595 hg596 => ?_) (fun w595 hg596 => ?_)
              ·
               have hz597 := hg596.size
               have hB598 := hb_call hB571 hb588
               have hB599 := hb_new hB598 hg596
               have hX600 := hf570.below hb588
               have hX601 := hX600.new hg596
               have hX602 := hX585.new hg596
               exact ⟨hB599, hX601, hX602⟩
              have hz603 := hg596.size
              have hB604 := hb_call hB571 hb588
              have hB605 := hb_new hB604 hg596
              have hX606 := hf570.below hb588
              have hX607 := hX606.new hg596
              have hX608 := hX585.new hg596
              refine dk0 0 (v := .bool true) h594 rfl rfl ⟨hB605, hX607, hX608⟩ fun a609 h609 => ?_; clear h594
              refine dk0 1 (v := .bool true) h609 rfl rfl ⟨hB605, hX607, hX608⟩ fun a610 h610 => ?_; clear h609
              refine dk0 2 (v := u583) h610 rfl rfl ⟨hB605, hX607, hX608⟩ fun a611 h611 => ?_; clear h610
              refine dk 3 (v := .int .i64 ((X584.length : Nat) : Int)) h611 rfl rfl ⟨hB605, hX607, hX608⟩ (fun x hx => (rn_len rfl rfl Try.underlying39 (hx.2.2.1))) fun a612 h612 => ?_; clear h611
              refine dk0 4 (v := .int .i64 ((k : Nat) : Int)) h612 rfl rfl ⟨hB605, hX607, hX608⟩ fun a613 h613 => ?_; clear h612
              refine dk0 5 (v := .bool (decide (((X584.length : Nat) : Int) ≥ ((k : Nat) : Int)))) h613 rfl rfl ⟨hB605, hX607, hX608⟩ fun a614 h614 => ?_; clear h613
              refine dk0 6 (v := .bool (decide (((X584.length : Nat) : Int) ≥ ((k : Nat) : Int)))) h614 rfl rfl ⟨hB605, hX607, hX608⟩ fun a615 h615 => ?_; clear h614
              refine dk0 7 (v := .bool (decide (((X584.length : Nat) : Int) ≥ ((k : Nat) : Int)))) h615 rfl rfl ⟨hB605, hX607, hX608⟩ fun a616 h616 => ?_; clear h615
              have hc617 : (decide (((X584.length : Nat) : Int) ≥ ((k : Nat) : Int))) = true := decide_eq_true (by omega)
              rw [hc617] at h616; clear hc617
              refine dk0 8 (v := u583) h616 rfl rfl ⟨hB605, hX607, hX608⟩ fun a618 h618 => ?_; clear h616
              refine dk0 9 (v := .int .i64 ((k : Nat) : Int)) h618 rfl rfl ⟨hB605, hX607, hX608⟩ fun a619 h619 => ?_; clear h618
              refine dk 10 (v := subV u583 0 k 4) h619 rfl rfl ⟨hB605, hX607, hX608⟩ (fun x hx => (rn_sliceTo rfl rfl rfl Try.underlying39 Try.sizeOf47 (hx.2.2.1) (by omega) (by omega))) fun a620 h620 => ?_; clear h619
              refine dk0 11 (v := v) h620 rfl rfl ⟨hB605, hX607, hX608⟩ fun a621 h621 => ?_; clear h620
              refine dk0 12 (v := .int .i64 ((k : Nat) : Int)) h621 rfl rfl ⟨hB605, hX607, hX608⟩ fun a622 h622 => ?_; clear h621
              refine dk 13 (v := subV v 0 k 4) h622 rfl rfl ⟨hB605, hX607, hX608⟩ (fun x hx => (rn_sliceTo rfl rfl rfl Try.underlying39 Try.sizeOf47 (hs.below hx.1) (by omega) (by omega))) fun a623 h623 => ?_; clear h622
              refine d1 14 h623 rfl rfl (op_call (args := #[subV u583 0 k 4, subV v 0 k 4]) (R := fun res xw => res = .bool true ∧ Below w595.heap.size w595 xw) rfl rfl rfl (by kernel_rfl) (by kernel_rfl) (Try.call23 _ _) (sameAllE_any (subV u583 0 k 4) (X584.take k) (subV v 0 k 4) (l.take k) w595 (SlX.sub hX608 (sl_take (hX608.1) _ (by omega)) (fun z hz => by first | exact List.mem_of_mem_take (List.mem_of_mem_drop hz) | exact List.mem_of_mem_drop hz | exact List.mem_of_mem_take hz)).1 (SlX.sub hX608 (sl_take (hX608.1) _ (by omega)) (fun z hz => by first | exact List.mem_of_mem_take (List.mem_of_mem_drop hz) | exact List.mem_of_mem_drop hz | exact List.mem_of_mem_take hz)).ok (SlX.sub ((SlX.of hs hok hRI).below hB605) (sl_take (hs.below hB605) _ (by omega)) (fun z hz => by first | exact List.mem_of_mem_take (List.mem_of_mem_drop hz) | exact List.mem_of_mem_drop hz | exact List.mem_of_mem_take hz)).1 (SlX.sub ((SlX.of hs hok hRI).below hB605) (sl_take (hs.below hB605) _ (by omega)) (fun z hz => by first | exact List.mem_of_mem_take (List.mem_of_mem_drop hz) | exact List.mem_of_mem_drop hz | exact List.mem_of_mem_take hz)).ok hax.1) (by rintro e x ⟨rfl, h⟩; exact ⟨_, rfl, rfl, h⟩)) ?_ ?_; clear h623
              ·
               rintro _ w625 ⟨rfl, hb626⟩
               have hz627 := hb626.size
               have hB628 := hb_call hB605 hb626
               have hX629 := hX607.below hb626
               have hX630 := hX608.below hb626
               exact ⟨hB628, hX629, hX630⟩
              rintro _ w625 a624 ⟨rfl, hb626⟩ h624
              have hz627 := hb626.size
              have hB628 := hb_call hB605 hb626
              have hX629 := hX607.below hb626
              have hX630 := hX608.below hb626
              refine dk0 15 (v := .bool true) h624 rfl rfl ⟨hB628, hX629, hX630⟩ fun a631 h631 => ?_; clear h624
              refine dk0 16 (v := .bool true) h631 rfl rfl ⟨hB628, hX629, hX630⟩ fun a632 h632 => ?_; clear h631
              refine dk0 17 (v := v) h632 rfl rfl ⟨hB628, hX629, hX630⟩ fun a633 h633 => ?_; clear h632
              refine dk0 18 (v := v2) h633 rfl rfl ⟨hB628, hX629, hX630⟩ fun a634 h634 => ?_; clear h633
              refine dk0 20 (v := .int .i64 ((k : Nat) : Int)) h634 rfl rfl ⟨hB628, hX629, hX630⟩ fun a635 h635 => ?_; clear h634
              refine d1 19 h635 rfl rfl (op_call (args := #[v, v2]) (R := fun res xw => ∃ n : Nat, res = .int .i64 ((n : Nat) : Int) ∧ BaseP l l2 n ∧ Below w625.heap.size w625 xw) rfl rfl rfl (by kernel_rfl) (by kernel_rfl) (Try.call48 _ _) (adoptBase_any v l v2 l2 w625 ((SlX.of hs hok hRI).below hB628).1 ((SlX.of hs2 hok2 hRO).below hB628).1) (by rintro e x ⟨n, rfl, h⟩; exact ⟨_, rfl, n, rfl, h⟩)) ?_ ?_; clear h635
              ·
               rintro _ w637 ⟨n638, rfl, hp639, hb640⟩
               have hz641 := hb640.size
               have hbk := base_ge hp639 hPre (by omega) (by omega)
               have hB642 := hb_call hB628 hb640
               have hX643 := hX629.below hb640
               have hX644 := hX630.below hb640
               exact ⟨hB642, hX643, hX644⟩
              rintro _ w637 a636 ⟨n638, rfl, hp639, hb640⟩ h636
              have hz641 := hb640.size
              have hbk := base_ge hp639 hPre (by omega) (by omega)
              have hB642 := hb_call hB628 hb640
              have hX643 := hX629.below hb640
              have hX644 := hX630.below hb640
              refine dk0 21 (v := .bool (decide (((n638 : Nat) : Int) ≥ ((k : Nat) : Int)))) h636 rfl rfl ⟨hB642, hX643, hX644⟩ fun a645 h645 => ?_; clear h636
              refine dk0 22 (v := .bool (decide (((n638 : Nat) : Int) ≥ ((k : Nat) : Int)))) h645 rfl rfl ⟨hB642, hX643, hX644⟩ fun a646 h646 => ?_; clear h645
              refine dk0 23 (v := .bool (decide (((n638 : Nat) : Int) ≥ ((k : Nat) : Int)))) h646 rfl rfl ⟨hB642, hX643, hX644⟩ fun a647 h647 => ?_; clear h646
              have hc648 : (decide (((n638 : Nat) : Int) ≥ ((k : Nat) : Int))) = true := decide_eq_true (by omega)
              rw [hc648] at h647; clear hc648
              refine d1 24 h647 rfl rfl (op_call (args := #[]) (R := fun res xw => res = .bool true ∧ Below w637.heap.size w637 xw) rfl rfl rfl (by kernel_rfl) (by kernel_rfl) (Try.call42 _ _) (awake18 w637) (by rintro e x ⟨rfl, h⟩; exact ⟨_, rfl, rfl, h⟩)) ?_ ?_; clear h647
              ·
               rintro _ w650 ⟨rfl, hb651⟩
               have hz652 := hb651.size
               have hB653 := hb_call hB642 hb651
               have hX654 := hX643.below hb651
               have hX655 := hX644.below hb651
               exact ⟨hB653, hX654, hX655⟩
              rintro _ w650 a649 ⟨rfl, hb651⟩ h649
              have hz652 := hb651.size
              have hB653 := hb_call hB642 hb651
              have hX654 := hX643.below hb651
              have hX655 := hX644.below hb651
              refine dk0 25 (v := .bool true) h649 rfl rfl ⟨hB653, hX654, hX655⟩ fun a656 h656 => ?_; clear h649
              refine dk0 26 (v := .bool true) h656 rfl rfl ⟨hB653, hX654, hX655⟩ fun a657 h657 => ?_; clear h656
              refine dr_done (by kernel_rfl) ?_
              refine co_then ?_
              refine wp_ret ?_
              refine co_ret1 h657 rfl rfl ?_
              exact ⟨rfl, hB653⟩
             ·
              rw [hc577] at h576
              have hp658 : ((i : Nat) : Int) < ((NS552.length : Nat) : Int) := of_decide_eq_true hc577
              clear hc577
              refine co_true h576 rfl ?_
              refine wp_skip ?_
              refine co_then ?_
              refine co_seq ?_
              refine wp_block ?_
              refine co_seq ?_
              refine co_reg ?_
              refine pk0 (v := u551) h576 rfl fun a659 h659 => ?_; clear h576
              refine pk0 (v := .int .i64 ((i : Nat) : Int)) h659 rfl fun a660 h660 => ?_; clear h659
              obtain ⟨y661, hy661⟩ : ∃ z, NS552[i]? = some z := ⟨_, List.getElem?_eq_getElem (by first | omega | (simp; done) | (simp; omega))⟩
              have hnk := agd_n hge.1 hq554 (List.mem_of_getElem? hy661) (hf570.2 _ (List.mem_of_getElem? hy661)).2
              refine pk (v := pt (blkOf u551) (offOf u551 + i * 18)) h660 rfl (rn_index rfl rfl rfl Try.underlying72 Try.sizeOf93 (hf570.1) (by omega) (by first | omega | (simp; done) | (simp; omega))) fun a662 h662 => ?_; clear h660
              refine pk0 (v := pt (blkOf u551) (offOf u551 + i * 18 + 1)) h662 rfl fun a663 h663 => ?_; clear h662
              refine pk (v := .int .i64 y661.n) h663 rfl (rn_load1 rfl rfl Try.isAgg3 ((sl_at (hf570.1) hy661) 1 _ rfl)) fun a664 h664 => ?_; clear h663
              refine pk0 (v := .int .i64 ((k : Nat) : Int)) h664 rfl fun a665 h665 => ?_; clear h664
              refine pk0 (v := .bool (decide (y661.n < ((k : Nat) : Int)))) h665 rfl fun a666 h666 => ?_; clear h665
              refine pl_nil ?_
              refine co_then ?_
              have hc667 : (decide (y661.n < ((k : Nat) : Int))) = false := decide_eq_false (by omega)
              rw [hc667] at h666; clear hc667
              refine co_false h666 rfl ?_
              refine wp_skip ?_
              refine co_blockN ?_
              refine co_then ?_
              refine co_reg ?_
              refine pk0 (v := .int .i64 ((i : Nat) : Int)) h666 rfl fun a668 h668 => ?_; clear h666
              refine pk (v := .int .i64 ((i + 1 : Nat) : Int)) h668 rfl (rn_arith' rfl rfl rfl rfl rfl rfl (IntWalk.i64_in _ (by omega)) (by omega)) fun a669 h669 => ?_; clear h668
              refine pk0 (v := .int .i64 ((i + 1 : Nat) : Int)) h669 rfl fun a670 h670 => ?_; clear h669
              refine pl_nil ?_
              refine co_then ?_
              refine ⟨(NS552.length - (i + 1)), by omega, ?_⟩
              have hsx9 := hf570
              exact ⟨i + 1, h670.sub ⟨rfl, rfl, rfl, rfl, rfl, trivial⟩, rfl, by omega, hsx9, hB571⟩
          ·
           rw [hc545] at h544
           have hp671 : y379.ts = y384.ts := by first | simpa using hc545 | simpa [and_assoc] using hc545
           clear hc545
           refine co_true h544 rfl ?_
           refine wp_skip ?_
           refine co_then ?_
           refine wp_block ?_
           refine co_reg ?_
           refine pk0 (v := .int .i64 ((k : Nat) : Int)) h544 rfl fun a672 h672 => ?_; clear h544
           refine pk (v := .int .i64 ((k + 1 : Nat) : Int)) h672 rfl (rn_arith' rfl rfl rfl rfl rfl rfl (IntWalk.i64_in _ (by omega)) (by omega)) fun a673 h673 => ?_; clear h672
           refine pk0 (v := .int .i64 ((k + 1 : Nat) : Int)) h673 rfl fun a674 h674 => ?_; clear h673
           refine pl_nil ?_
           refine co_blockN ?_
           refine co_then ?_
           refine ⟨(l.length - (k + 1)), by omega, ?_⟩
           have hp9 := pre_next hPre hy379 hy384 (by omega)
           exact ⟨k + 1, h674.sub ⟨rfl, rfl, rfl, trivial⟩, rfl, by omega, by omega, by exact hp9, hB391⟩
    ·
     rw [hc41] at h40
     have hp675 : rightI l2 ≠ 0 := by first | simpa using hc41 | simpa [and_assoc] using hc41
     clear hc41
     refine co_true h40 rfl ?_
     refine co_seq ?_
     refine co_reg ?_
     refine pw h40 rfl (op_call (args := #[]) (R := fun res xw => res = .bool true ∧ Below w36.heap.size w36 xw) rfl rfl rfl (by kernel_rfl) (by kernel_rfl) (Try.call42 _ _) (awake18 w36) (by rintro e x ⟨rfl, h⟩; exact ⟨_, rfl, rfl, h⟩)) ?_; clear h40
     rintro _ w677 a676 ⟨rfl, hb678⟩ h676
     have hz679 := hb678.size
     refine pk0 (v := .bool true) h676 rfl fun a680 h680 => ?_; clear h676
     refine pl_nil ?_
     refine co_then ?_
     refine wp_ret ?_
     refine co_thenR ?_
     refine co_ret1 h680 rfl rfl ?_
     have hB681 := hb_call hB42 hb678
     exact ⟨rfl, hB681⟩
   ·
    rw [hc31] at h30
    have hp682 : rightI l ≠ 0 := by first | simpa using hc31 | simpa [and_assoc] using hc31
    clear hc31
    refine psk h30 rfl fun a683 h683 => ?_; clear h30
    refine psk h683 rfl fun a684 h684 => ?_; clear h683
    refine psk h684 rfl fun a685 h685 => ?_; clear h684
    refine pk0 (v := .bool true) h685 rfl fun a686 h686 => ?_; clear h685
    refine pl_nil ?_
    refine co_then ?_
    refine co_true h686 rfl ?_
    refine co_seq ?_
    refine co_reg ?_
    refine pw h686 rfl (op_call (args := #[]) (R := fun res xw => res = .bool true ∧ Below w25.heap.size w25 xw) rfl rfl rfl (by kernel_rfl) (by kernel_rfl) (Try.call42 _ _) (awake18 w25) (by rintro e x ⟨rfl, h⟩; exact ⟨_, rfl, rfl, h⟩)) ?_; clear h686
    rintro _ w688 a687 ⟨rfl, hb689⟩ h687
    have hz690 := hb689.size
    refine pk0 (v := .bool true) h687 rfl fun a691 h691 => ?_; clear h687
    refine pl_nil ?_
    refine co_then ?_
    refine wp_ret ?_
    refine co_thenR ?_
    refine co_ret1 h691 rfl rfl ?_
    have hB692 := hb_call hB32 hb689
    exact ⟨rfl, hB692⟩
  ·
   rw [hc20] at h19
   have hp693 : muchN l2 > 60 := of_decide_eq_true hc20
   clear hc20
   refine psk h19 rfl fun a694 h694 => ?_; clear h19
   refine psk h694 rfl fun a695 h695 => ?_; clear h694
   refine psk h695 rfl fun a696 h696 => ?_; clear h695
   refine pk0 (v := .bool true) h696 rfl fun a697 h697 => ?_; clear h696
   refine pk0 (v := .bool true) h697 rfl fun a698 h698 => ?_; clear h697
   refine psk h698 rfl fun a699 h699 => ?_; clear h698
   refine psk h699 rfl fun a700 h700 => ?_; clear h699
   refine psk h700 rfl fun a701 h701 => ?_; clear h700
   refine pk0 (v := .bool true) h701 rfl fun a702 h702 => ?_; clear h701
   refine pl_nil ?_
   refine co_then ?_
   refine co_true h702 rfl ?_
   refine co_seq ?_
   refine co_reg ?_
   refine pw h702 rfl (op_call (args := #[]) (R := fun res xw => res = .bool true ∧ Below w14.heap.size w14 xw) rfl rfl rfl (by kernel_rfl) (by kernel_rfl) (Try.call42 _ _) (awake18 w14) (by rintro e x ⟨rfl, h⟩; exact ⟨_, rfl, rfl, h⟩)) ?_; clear h702
   rintro _ w704 a703 ⟨rfl, hb705⟩ h703
   have hz706 := hb705.size
   refine pk0 (v := .bool true) h703 rfl fun a707 h707 => ?_; clear h703
   refine pl_nil ?_
   refine co_then ?_
   refine wp_ret ?_
   refine co_thenR ?_
   refine co_ret1 h707 rfl rfl ?_
   have hB708 := hb_call hB21 hb705
   exact ⟨rfl, hB708⟩
 ·
  rw [hc9] at h8
  have hp709 : muchN l > 60 := of_decide_eq_true hc9
  clear hc9
  refine psk h8 rfl fun a710 h710 => ?_; clear h8
  refine psk h710 rfl fun a711 h711 => ?_; clear h710
  refine psk h711 rfl fun a712 h712 => ?_; clear h711
  refine pk0 (v := .bool true) h712 rfl fun a713 h713 => ?_; clear h712
  refine pk0 (v := .bool true) h713 rfl fun a714 h714 => ?_; clear h713
  refine psk h714 rfl fun a715 h715 => ?_; clear h714
  refine psk h715 rfl fun a716 h716 => ?_; clear h715
  refine psk h716 rfl fun a717 h717 => ?_; clear h716
  refine pk0 (v := .bool true) h717 rfl fun a718 h718 => ?_; clear h717
  refine pk0 (v := .bool true) h718 rfl fun a719 h719 => ?_; clear h718
  refine psk h719 rfl fun a720 h720 => ?_; clear h719
  refine psk h720 rfl fun a721 h721 => ?_; clear h720
  refine psk h721 rfl fun a722 h722 => ?_; clear h721
  refine pk0 (v := .bool true) h722 rfl fun a723 h723 => ?_; clear h722
  refine pl_nil ?_
  refine co_then ?_
  refine co_true h723 rfl ?_
  refine co_seq ?_
  refine co_reg ?_
  refine pw h723 rfl (op_call (args := #[]) (R := fun res xw => res = .bool true ∧ Below w4.heap.size w4 xw) rfl rfl rfl (by kernel_rfl) (by kernel_rfl) (Try.call42 _ _) (awake18 w4) (by rintro e x ⟨rfl, h⟩; exact ⟨_, rfl, rfl, h⟩)) ?_; clear h723
  rintro _ w725 a724 ⟨rfl, hb726⟩ h724
  have hz727 := hb726.size
  refine pk0 (v := .bool true) h724 rfl fun a728 h728 => ?_; clear h724
  refine pl_nil ?_
  refine co_then ?_
  refine wp_ret ?_
  refine co_thenR ?_
  refine co_ret1 h728 rfl rfl ?_
  have hB729 := hb_call hB10 hb726
  exact ⟨rfl, hB729⟩
end Go.Proofs.Ythmnndbpadegnaa
